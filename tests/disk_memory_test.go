package tests

import (
	"testing"

	"loop.example/s02176/impl"
)

// roomyDisk has spare room behind its list, where a careless append would write into the argument.
func roomyDisk() impl.Disk {
	d := threeFiles()
	files := make([]impl.File, len(d.Files), len(d.Files)+8)
	copy(files, d.Files)
	d.Files = files
	return d
}

// expectApart writes into all of the answer, and asks that all memory of the argument is as it was.
func expectApart(t *testing.T, what string, d impl.Disk, answer impl.Disk) {
	t.Helper()
	want := cloneDisk(d)
	answer.Files = answer.Files[:cap(answer.Files)]
	for i := range answer.Files {
		answer.Files[i] = impl.File{Name: "scribble", Data: "scribble", Synced: 1}
	}
	if !sameDisk(d, want) {
		t.Errorf("%s: the answer shares memory with the argument", what)
	}
	for _, f := range d.Files[len(d.Files):cap(d.Files)] {
		if f != (impl.File{}) {
			t.Errorf("%s: the spare room of the argument has %+v", what, f)
		}
	}
}

func TestStepsShareNoMemory(t *testing.T) {
	for _, op := range append(allOps(), rename("m", "m"), appendTo("m", "")) {
		d := roomyDisk()
		got, _ := impl.DiskStep(d, op)
		expectApart(t, "a step", d, got)

		d = roomyDisk()
		d.Down = true
		got, _ = impl.DiskStep(d, op)
		expectApart(t, "a step of a disk that is down", d, got)

		d = roomyDisk()
		d.Count = impl.MaxCount
		got, _ = impl.DiskStep(d, op)
		expectApart(t, "a step at MaxCount", d, got)

		d = roomyDisk()
		d.CrashAt = 8
		got, _ = impl.DiskStep(d, op)
		expectApart(t, "a step at CrashAt", d, got)

		d = roomyDisk()
		d.FailAt = 8
		got, _ = impl.DiskStep(d, op)
		expectApart(t, "a step at FailAt", d, got)
	}
}

func TestCrashSharesNoMemory(t *testing.T) {
	for _, keep := range [][]int{nil, {1, 1, 1}, {9, 9, 9}} {
		d := roomyDisk()
		expectApart(t, "a crash", d, impl.DiskCrash(d, keep))
	}
	d := roomyDisk()
	d.Files = d.Files[2:3]
	expectApart(t, "a crash that loses nothing", d, impl.DiskCrash(d, nil))
}

func TestLookingChangesNothing(t *testing.T) {
	d := roomyDisk()
	want := cloneDisk(d)
	impl.DiskValid(d)
	impl.DiskRead(d, "m")
	if !sameDisk(d, want) {
		t.Errorf("%+v, was %+v", d, want)
	}
}
