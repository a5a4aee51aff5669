package tests

import (
	"fmt"
	"math"
	"testing"

	"loop.example/s02176/impl"
)

const lastName, nextName = "wal-000005", "wal-000006"

// grown and rolled are what logDisk's log becomes by a payload: in its last segment, or in a new one.
func grown(t *testing.T, d impl.Disk, payload string) appended {
	t.Helper()
	f := impl.Frame(payload)
	return appended{afterOps(t, d, appendTo(lastName, f), syncOf(lastName)), impl.Log{First: 4, Last: 5, Size: 12 + len(f)}, impl.LogOK}
}

func rolled(t *testing.T, d impl.Disk, payload string) appended {
	t.Helper()
	f := impl.Frame(payload)
	return appended{afterOps(t, d, create(nextName), appendTo(nextName, f), syncOf(nextName)), impl.Log{First: 4, Last: 6, Size: len(f)}, impl.LogOK}
}

func noLogs() []impl.Log {
	return []impl.Log{
		{},
		{First: 0, Last: 1},
		{First: -1, Last: 1},
		{First: 2, Last: 1},
		{First: 1, Last: 0},
		{First: 1, Last: impl.MaxSegments + 1},
		{First: impl.MaxSegments + 1, Last: impl.MaxSegments + 1},
		{First: 4, Last: 5, Size: -1},
		{First: 4, Last: 5, Size: impl.MaxDisk + 1},
		{First: math.MinInt, Last: math.MinInt, Size: math.MinInt},
		{First: math.MaxInt, Last: math.MaxInt, Size: math.MaxInt},
		{First: 4, Last: 5, Size: math.MaxInt},
		{First: 4, Last: 5, Size: math.MinInt},
		{First: 4, Last: math.MaxInt},
		{First: math.MinInt, Last: 5},
	}
}

// wrongMosts and rightMosts lie at both edges of what most may be.
func wrongMosts() []int { return []int{0, -1, impl.MaxDisk + 1, math.MaxInt, math.MinInt} }

func rightMosts() []int { return []int{1, 2, impl.MaxDisk - 1, impl.MaxDisk} }

func TestAppendToNoLog(t *testing.T) {
	for _, d := range []impl.Disk{logDisk(), {Cap: -1}, {Files: numberedFiles(2), Down: true}} {
		for _, log := range noLogs() {
			for _, payload := range []string{"five", "", bytesLong(impl.MaxPayload + 1)} {
				expectUnasked(t, fmt.Sprint(log), d, log, payload, 100, impl.LogGap)
				expectUnasked(t, fmt.Sprint(log, ", most 0"), d, log, payload, 0, impl.LogGap)
			}
		}
		for _, most := range wrongMosts() {
			expectUnasked(t, fmt.Sprint("most ", most), d, logOfDisk(), "five", most, impl.LogGap)
			expectUnasked(t, fmt.Sprint("most ", most, ", no payload"), d, logOfDisk(), "", most, impl.LogGap)
			expectUnasked(t, fmt.Sprint("most ", most, ", at the end"), d, impl.Log{First: 1, Last: impl.MaxSegments, Size: 1}, "five", most, impl.LogGap)
		}
	}
}

func TestAppendOfNoPayload(t *testing.T) {
	for _, d := range []impl.Disk{logDisk(), {Cap: -1}, {Files: numberedFiles(2), Down: true}} {
		for _, n := range []int{0, impl.MaxPayload + 1, impl.MaxPayload + 2} {
			for _, most := range rightMosts() {
				expectUnasked(t, fmt.Sprint(n, " bytes"), d, logOfDisk(), bytesLong(n), most, impl.LogTooBig)
				expectUnasked(t, fmt.Sprint(n, " bytes at the end"), d, impl.Log{First: 1, Last: impl.MaxSegments, Size: 1}, bytesLong(n), most, impl.LogTooBig)
			}
		}
	}
}

func TestAppendOfTheLeastAndTheGreatest(t *testing.T) {
	d := logDisk()
	d.Cap = impl.MaxDisk
	for _, n := range []int{1, 2, impl.MaxPayload - 1, impl.MaxPayload} {
		p := bytesLong(n)
		expectAppend(t, fmt.Sprint(n, " bytes, most MaxDisk"), d, logOfDisk(), p, impl.MaxDisk, grown(t, d, p))
		expectAppend(t, fmt.Sprint(n, " bytes, most 1"), d, logOfDisk(), p, 1, rolled(t, d, p))
	}
}

func TestAppendAtTheEdgeOfASegment(t *testing.T) {
	d := logDisk()
	// 12 bytes are there, and the frame of "edge" has 12 too.
	for _, most := range []int{24, 25, 100, impl.MaxDisk - 1, impl.MaxDisk} {
		expectAppend(t, fmt.Sprint("it fits into ", most), d, logOfDisk(), "edge", most, grown(t, d, "edge"))
	}
	for _, most := range []int{23, 22, 13, 12, 11, 2, 1} {
		expectAppend(t, fmt.Sprint("it doesn't fit into ", most), d, logOfDisk(), "edge", most, rolled(t, d, "edge"))
	}
}

func TestAppendToAnEmptySegment(t *testing.T) {
	d := withFiles(firmFile("wal-000003", ""))
	log := impl.Log{First: 3, Last: 3}
	f := impl.Frame("edge")
	want := appended{afterOps(t, d, appendTo("wal-000003", f), syncOf("wal-000003")), impl.Log{First: 3, Last: 3, Size: 12}, impl.LogOK}
	for _, most := range []int{1, 11, 12, 13, impl.MaxDisk} {
		expectAppend(t, fmt.Sprint("most ", most), d, log, "edge", most, want)
	}
	d.Files[0].Name = "wal-999999"
	log = impl.Log{First: 1, Last: impl.MaxSegments}
	want = appended{afterOps(t, d, appendTo("wal-999999", f), syncOf("wal-999999")), impl.Log{First: 1, Last: impl.MaxSegments, Size: 12}, impl.LogOK}
	expectAppend(t, "the last of all segments, most 1", d, log, "edge", 1, want)
}

func TestAppendAtTheLastSegment(t *testing.T) {
	d := withFiles(firmFile("wal-999999", framesOf("five")))
	log := impl.Log{First: 7, Last: impl.MaxSegments, Size: 12}
	f := impl.Frame("edge")
	want := appended{afterOps(t, d, appendTo("wal-999999", f), syncOf("wal-999999")), impl.Log{First: 7, Last: impl.MaxSegments, Size: 24}, impl.LogOK}
	expectAppend(t, "it fits", d, log, "edge", 24, want)
	expectUnasked(t, "it doesn't", d, log, "edge", 23, impl.LogEnd)
	expectUnasked(t, "it doesn't, by far", d, log, "edge", 1, impl.LogEnd)
	down := cloneDisk(d)
	down.Down = true
	expectUnasked(t, "on a disk that is down", down, log, "edge", 23, impl.LogEnd)
	expectUnasked(t, "on one that isn't valid", impl.Disk{Cap: -1, Files: numberedFiles(1)}, log, "edge", 23, impl.LogEnd)

	d = withFiles(firmFile("wal-999998", framesOf("five")))
	log.Last--
	want = appended{afterOps(t, d, create("wal-999999"), appendTo("wal-999999", f), syncOf("wal-999999")), impl.Log{First: 7, Last: impl.MaxSegments, Size: 12}, impl.LogOK}
	expectAppend(t, "the last but one", d, log, "edge", 23, want)
}

func TestAppendGoesByTheLogAlone(t *testing.T) {
	d := logDisk()
	log := impl.Log{First: 5, Last: 5, Size: 999}
	f := impl.Frame("edge")
	disk := afterOps(t, d, appendTo(lastName, f), syncOf(lastName))
	expectAppend(t, "a Size that isn't the file's", d, log, "edge", 1011, appended{disk, impl.Log{First: 5, Last: 5, Size: 1011}, impl.LogOK})
	log.Size = 0
	expectAppend(t, "a Size of 0 at a file with bytes", d, log, "edge", 1, appended{disk, impl.Log{First: 5, Last: 5, Size: 12}, impl.LogOK})
	log.Size = impl.MaxDisk
	disk = afterOps(t, d, create(nextName), appendTo(nextName, f), syncOf(nextName))
	expectAppend(t, "a Size of MaxDisk", d, log, "edge", impl.MaxDisk, appended{disk, impl.Log{First: 5, Last: 6, Size: 12}, impl.LogOK})
	log.Size = impl.MaxDisk - 12
	disk = afterOps(t, d, appendTo(lastName, f), syncOf(lastName))
	expectAppend(t, "up to MaxDisk", d, log, "edge", impl.MaxDisk, appended{disk, impl.Log{First: 5, Last: 5, Size: impl.MaxDisk}, impl.LogOK})
}

func TestWhatIsAppendedIsRead(t *testing.T) {
	for _, most := range []int{1, 20, 30, 50, 1000} {
		got := openOf(impl.Disk{Cap: 5000})
		var payloads []string
		for n := 1; n <= 40; n++ {
			p := bytesLong(n)
			payloads = append(payloads, p)
			next := appendOf(got.disk, got.log, p, most)
			if next.code != impl.LogOK {
				t.Fatal(most, n, next)
			}
			want := opened{next.disk, next.log, payloads, impl.LogOK}
			expectOpen(t, fmt.Sprint("most ", most, ", after ", n), next.disk, want)
			got.disk, got.log = next.disk, next.log
		}
	}
}
