package tests

import (
	"fmt"
	"slices"
	"testing"

	"loop.example/s02176/impl"
)

// sameDisk takes a nil list and an empty one for the same.
func sameDisk(a, b impl.Disk) bool {
	return slices.Equal(a.Files, b.Files) && a.Cap == b.Cap && a.Count == b.Count &&
		a.CrashAt == b.CrashAt && a.FailAt == b.FailAt && a.Down == b.Down
}

func cloneDisk(d impl.Disk) impl.Disk {
	d.Files = slices.Clone(d.Files)
	return d
}

// threeFiles has a file of every sort: nothing synced, some of it, and all of it.
func threeFiles() impl.Disk {
	return impl.Disk{
		Files: []impl.File{
			{Name: "a", Data: "loose"},
			{Name: "m", Data: "half-half", Synced: 4},
			{Name: "z", Data: "firm", Synced: 4},
		},
		Cap:   30,
		Count: 7,
	}
}

// numberedFiles gives n empty files, in order.
func numberedFiles(n int) []impl.File {
	files := make([]impl.File, n)
	for i := range files {
		files[i].Name = fmt.Sprintf("f%04d", i)
	}
	return files
}

// kindsOf gives an operation of each kind that would be done on threeFiles.
func kindsOf() []impl.DiskOp {
	return []impl.DiskOp{
		{Kind: impl.DoCreate, Name: "new"},
		{Kind: impl.DoAppend, Name: "m", Data: "xy"},
		{Kind: impl.DoSync, Name: "m"},
		{Kind: impl.DoTruncate, Name: "m", Size: 3},
		{Kind: impl.DoRename, Name: "m", To: "b"},
		{Kind: impl.DoDelete, Name: "m"},
	}
}

// expectStep carries op out on d and asks for just this disk and code, and that d is as it was.
func expectStep(t *testing.T, what string, d impl.Disk, op impl.DiskOp, want impl.Disk, code int) {
	t.Helper()
	before := cloneDisk(d)
	got, gotCode := impl.DiskStep(d, op)
	if gotCode != code {
		t.Errorf("%s: code %d, not %d", what, gotCode, code)
	}
	if !sameDisk(got, want) {
		t.Errorf("%s: the disk is %+v, not %+v", what, got, want)
	}
	if !sameDisk(d, before) {
		t.Errorf("%s: the argument became %+v, was %+v", what, d, before)
	}
	if !impl.DiskValid(got) {
		t.Errorf("%s: the disk isn't valid: %+v", what, got)
	}
}

// expectRefused asks that op changes nothing but Count.
func expectRefused(t *testing.T, what string, d impl.Disk, op impl.DiskOp, code int) {
	t.Helper()
	want := cloneDisk(d)
	want.Count++
	expectStep(t, what, d, op, want, code)
}

// expectDone asks that op answers DiskOK and leaves these files.
func expectDone(t *testing.T, what string, d impl.Disk, op impl.DiskOp, files ...impl.File) {
	t.Helper()
	want := d
	want.Files = files
	want.Count++
	expectStep(t, what, d, op, want, impl.DiskOK)
}
