package tests

import (
	"fmt"
	"slices"
	"testing"

	"loop.example/s02176/impl"
)

// roomy gives d with spare room behind its list, where a careless append would write into the argument.
func roomy(d impl.Disk) impl.Disk {
	files := make([]impl.File, len(d.Files), len(d.Files)+8)
	copy(files, d.Files)
	d.Files = files
	return d
}

// openableDisks are answered in every way that LogOpen has.
func openableDisks() []impl.Disk {
	gap, corrupt, down := logDisk(), logDisk(), logDisk()
	gap.Files[1].Name = "wal-000003"
	corrupt.Files[1].Data += "?"
	down.Down = true
	disks := []impl.Disk{threeFiles(), logDisk(), tornDisk(), looseDisk(), gap, corrupt, down}
	for _, d := range []impl.Disk{threeFiles(), tornDisk(), looseDisk()} {
		for _, f := range faults() {
			bad := cloneDisk(d)
			f.arm(&bad, 0)
			disks = append(disks, bad)
		}
	}
	return disks
}

func TestOpenSharesNoMemory(t *testing.T) {
	for i, d := range openableDisks() {
		d = roomy(d)
		got := openOf(d)
		payloads := slices.Clone(got.payloads)
		expectApart(t, fmt.Sprint("disk ", i), d, got.disk)
		if !slices.Equal(got.payloads, payloads) {
			t.Errorf("disk %d: the payloads share memory with the disk", i)
		}
		again := openOf(d)
		for j := range again.payloads {
			again.payloads[j] = "scribble"
		}
		if once := openOf(d); !slices.Equal(once.payloads, payloads) {
			t.Errorf("disk %d: the payloads became %q", i, once.payloads)
		}
	}
}

func TestAppendSharesNoMemory(t *testing.T) {
	ask := func(what string, d impl.Disk, log impl.Log, payload string, most int) {
		d = roomy(d)
		got := appendOf(d, log, payload, most)
		expectApart(t, what, d, got.disk)
	}
	for _, most := range []int{24, 23} {
		ask("done", logDisk(), logOfDisk(), "edge", most)
		for n := range 3 {
			for _, f := range faults() {
				d := logDisk()
				f.arm(&d, n)
				ask(f.what, d, logOfDisk(), "edge", most)
			}
		}
		down := logDisk()
		down.Down = true
		ask("down", down, logOfDisk(), "edge", most)
		ask("missing", threeFiles(), logOfDisk(), "edge", most)
	}
	ask("no log", logDisk(), impl.Log{}, "edge", 24)
	ask("no most", logDisk(), logOfDisk(), "edge", 0)
	ask("no payload", logDisk(), logOfDisk(), "", 24)
	ask("at the end", logDisk(), impl.Log{First: 4, Last: impl.MaxSegments, Size: 12}, "edge", 23)
	invalid := logDisk()
	invalid.Cap = 1
	ask("no log on no disk", invalid, impl.Log{}, "edge", 24)
	ask("no disk", invalid, logOfDisk(), "edge", 24)
}

func TestScanGivesNewMemory(t *testing.T) {
	data := framesOf("one", "two")
	first, _ := impl.Scan(data)
	first[0], first[1] = "scribble", "scribble"
	expectScan(t, "after a scribble", data, len(data), "one", "two")
}
