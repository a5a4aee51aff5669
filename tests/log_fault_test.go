package tests

import (
	"fmt"
	"testing"

	"loop.example/s02176/impl"
)

// fault is a way in which a disk refuses the operation that would be its next: arm sets it up behind n others.
type fault struct {
	what string
	arm  func(d *impl.Disk, n int)
	met  func(d *impl.Disk) // what the refusal changes
	code int
}

func faults() []fault {
	return []fault{
		{"CrashAt", func(d *impl.Disk, n int) { d.CrashAt = d.Count + 1 + n }, func(d *impl.Disk) { d.Count++; d.Down = true }, impl.DiskDown},
		{"FailAt", func(d *impl.Disk, n int) { d.FailAt = d.Count + 1 + n }, func(d *impl.Disk) { d.Count++ }, impl.DiskFailed},
		{"MaxCount", func(d *impl.Disk, n int) { d.Count = impl.MaxCount - n }, func(d *impl.Disk) {}, impl.DiskFailed},
		{"both", func(d *impl.Disk, n int) { d.CrashAt, d.FailAt = d.Count+1+n, d.Count+1+n }, func(d *impl.Disk) { d.Count++; d.Down = true }, impl.DiskDown},
	}
}

func TestOpenIsRefusedItsOperation(t *testing.T) {
	disks := map[string]impl.Disk{"a create": threeFiles(), "a truncate": tornDisk(), "a sync": looseDisk()}
	for what, d := range disks {
		for _, f := range faults() {
			bad := cloneDisk(d)
			f.arm(&bad, 0)
			want := cloneDisk(bad)
			f.met(&want)
			expectNoLog(t, what+", "+f.what, bad, want, f.code)
		}
		for _, f := range faults() {
			late := cloneDisk(d)
			f.arm(&late, 1)
			got := openOf(late)
			if got.code != impl.LogOK || got.disk.Count != late.Count+1 || got.disk.Down {
				t.Errorf("%s, %s one operation later: %+v", what, f.what, got)
			}
		}
	}
}

func TestOpenOnAFullTable(t *testing.T) {
	d := impl.Disk{Files: numberedFiles(impl.MaxFiles)}
	want := cloneDisk(d)
	want.Count = 1
	expectNoLog(t, "MaxFiles files", d, want, impl.DiskFull)
	d.Files = numberedFiles(impl.MaxFiles - 1)
	want = afterOps(t, d, create("wal-000001"))
	expectOpen(t, "one less", d, opened{want, impl.Log{First: 1, Last: 1}, nil, impl.LogOK})
}

func TestOpenMeetsNoFaultWithoutAnOperation(t *testing.T) {
	for _, f := range faults() {
		whole, gap, corrupt := logDisk(), tornDisk(), tornDisk()
		gap.Files[1].Name = "wal-000003"
		corrupt.Files[1].Data += "?"
		for _, d := range []*impl.Disk{&whole, &gap, &corrupt} {
			f.arm(d, 0)
		}
		expectOpen(t, f.what, whole, opened{whole, logOfDisk(), []string{"one", "three", "five"}, impl.LogOK})
		expectNoLog(t, f.what+", a gap", gap, gap, impl.LogGap)
		expectNoLog(t, f.what+", a torn segment", corrupt, corrupt, impl.LogCorrupt)
	}
}

// expectRefusedAt arms every fault ahead of each operation in turn, and asks for what those before it left.
func expectRefusedAt(t *testing.T, d impl.Disk, most int, logs []impl.Log, ops []impl.DiskOp) {
	t.Helper()
	for n := range ops {
		for _, f := range faults() {
			bad := cloneDisk(d)
			f.arm(&bad, n)
			want := afterOps(t, bad, ops[:n]...)
			f.met(&want)
			expectAppend(t, fmt.Sprintf("%s at operation %d", f.what, n), bad, logOfDisk(), "edge", most, appended{want, logs[n], f.code})
		}
	}
	for _, f := range faults() {
		late := cloneDisk(d)
		f.arm(&late, len(ops))
		want := afterOps(t, late, ops...)
		expectAppend(t, f.what+" behind them all", late, logOfDisk(), "edge", most, appended{want, logs[len(ops)], impl.LogOK})
	}
}

func TestAppendIsRefusedEachOperation(t *testing.T) {
	log, f := logOfDisk(), impl.Frame("edge")
	begun := impl.Log{First: 4, Last: 6}
	expectRefusedAt(t, logDisk(), 24, []impl.Log{log, log, {First: 4, Last: 5, Size: 24}},
		[]impl.DiskOp{appendTo(lastName, f), syncOf(lastName)})
	expectRefusedAt(t, logDisk(), 23, []impl.Log{log, begun, begun, {First: 4, Last: 6, Size: 12}},
		[]impl.DiskOp{create(nextName), appendTo(nextName, f), syncOf(nextName)})
}

func TestAppendOnAFullDisk(t *testing.T) {
	d := logDisk()
	// 5, 24, 4, 12 and 4 bytes are there.
	d.Cap = 49 + 12
	expectAppend(t, "just room", d, logOfDisk(), "edge", 24, grown(t, d, "edge"))
	expectAppend(t, "just room, in a new segment", d, logOfDisk(), "edge", 23, rolled(t, d, "edge"))
	d.Cap--
	want := cloneDisk(d)
	want.Count++
	expectAppend(t, "a byte too few", d, logOfDisk(), "edge", 24, appended{want, logOfDisk(), impl.DiskFull})
	want = afterOps(t, d, create(nextName))
	want.Count++
	expectAppend(t, "a byte too few, in a new segment", d, logOfDisk(), "edge", 23, appended{want, impl.Log{First: 4, Last: 6}, impl.DiskFull})
}

func TestAppendOnAFullTable(t *testing.T) {
	d := impl.Disk{Files: append(numberedFiles(impl.MaxFiles-1), firmFile(lastName, framesOf("five"))), Cap: 1000}
	want := cloneDisk(d)
	want.Count++
	expectAppend(t, "no room for a segment", d, logOfDisk(), "edge", 23, appended{want, logOfDisk(), impl.DiskFull})
	expectAppend(t, "none is needed", d, logOfDisk(), "edge", 24, grown(t, d, "edge"))
	d.Files = d.Files[1:]
	expectAppend(t, "room for one", d, logOfDisk(), "edge", 23, rolled(t, d, "edge"))
}

func TestAppendWithFilesThatDoNotSuit(t *testing.T) {
	d := afterOps(t, logDisk(), create(nextName))
	want := cloneDisk(d)
	want.Count++
	expectAppend(t, "the next segment is there", d, logOfDisk(), "edge", 23, appended{want, logOfDisk(), impl.DiskExists})
	expectAppend(t, "it isn't needed", d, logOfDisk(), "edge", 24, grown(t, d, "edge"))

	d = afterOps(t, logDisk(), remove(lastName))
	want = cloneDisk(d)
	want.Count++
	expectAppend(t, "the last segment is missing", d, logOfDisk(), "edge", 24, appended{want, logOfDisk(), impl.DiskMissing})
	expectAppend(t, "it isn't needed", d, logOfDisk(), "edge", 23, rolled(t, d, "edge"))
	expectAppend(t, "no files at all", impl.Disk{}, logOfDisk(), "edge", 24, appended{impl.Disk{Count: 1}, logOfDisk(), impl.DiskMissing})
}

func TestAppendToADiskThatIsDownOrNone(t *testing.T) {
	for _, most := range []int{24, 23} {
		d := logDisk()
		d.Down = true
		expectUnasked(t, "down", d, logOfDisk(), "edge", most, impl.DiskDown)
		d.Count = impl.MaxCount
		expectUnasked(t, "down at MaxCount", d, logOfDisk(), "edge", most, impl.DiskDown)
		for what, bad := range invalidDisks() {
			want := appended{impl.Disk{}, logOfDisk(), impl.DiskBad}
			expectAppend(t, what, bad, logOfDisk(), "edge", most, want)
			bad.Down = true
			expectAppend(t, what+", down", bad, logOfDisk(), "edge", most, want)
		}
	}
}
