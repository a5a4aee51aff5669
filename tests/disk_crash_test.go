package tests

import (
	"slices"
	"testing"

	"loop.example/s02176/impl"
)

// expectCrash asks for just these bytes, all of them synced, and the numbers of a disk that came back.
func expectCrash(t *testing.T, d impl.Disk, keep []int, data ...string) {
	t.Helper()
	want := impl.Disk{Cap: d.Cap, Count: d.Count}
	for i, f := range d.Files {
		want.Files = append(want.Files, impl.File{Name: f.Name, Data: data[i], Synced: len(data[i])})
	}
	before, keepBefore := cloneDisk(d), slices.Clone(keep)
	got := impl.DiskCrash(d, keep)
	if !sameDisk(got, want) {
		t.Errorf("keep %v: %+v, not %+v", keep, got, want)
	}
	if !impl.DiskValid(got) {
		t.Errorf("keep %v: not valid: %+v", keep, got)
	}
	if !sameDisk(d, before) || !slices.Equal(keep, keepBefore) {
		t.Errorf("an argument was changed: %+v, %v", d, keep)
	}
}

func TestCrashKeepsABeginning(t *testing.T) {
	d := threeFiles()
	expectCrash(t, d, nil, "", "half", "firm")
	expectCrash(t, d, []int{}, "", "half", "firm")
	expectCrash(t, d, []int{0, 0, 0}, "", "half", "firm")
	expectCrash(t, d, []int{1, 1, 1}, "l", "half-", "firm")
	expectCrash(t, d, []int{4, 4, 0}, "loos", "half-hal", "firm")
	expectCrash(t, d, []int{5, 5, 0}, "loose", "half-half", "firm")
}

func TestCrashWithAnyKeep(t *testing.T) {
	const most, least = 1<<63 - 1, -1 << 63
	d := threeFiles()
	expectCrash(t, d, []int{2}, "lo", "half", "firm")
	expectCrash(t, d, []int{0, 3}, "", "half-ha", "firm")
	expectCrash(t, d, []int{-1, -5, -1}, "", "half", "firm")
	expectCrash(t, d, []int{least, least, least}, "", "half", "firm")
	expectCrash(t, d, []int{6, 6, 1}, "loose", "half-half", "firm")
	expectCrash(t, d, []int{most, most, most}, "loose", "half-half", "firm")
	expectCrash(t, d, []int{1, -1, 1, 7, 7}, "l", "half", "firm")
}

func TestCrashOfTheNumbers(t *testing.T) {
	d := threeFiles()
	d.Count, d.CrashAt, d.FailAt, d.Down = 12, 12, 40, true
	expectCrash(t, d, []int{9, 1}, "loose", "half-", "firm")
	d.Count = impl.MaxCount
	expectCrash(t, d, nil, "", "half", "firm")
	expectCrash(t, impl.Disk{Down: true, FailAt: 3}, []int{1, 2})
	full := impl.Disk{Files: []impl.File{{Name: "a", Data: "xyz", Synced: 1}}, Cap: 3, Count: 1}
	expectCrash(t, full, []int{1}, "xy")
}

func TestACrashedDiskGoesOn(t *testing.T) {
	d := impl.Disk{Cap: 10, CrashAt: 3}
	for i, op := range []impl.DiskOp{create("a"), appendTo("a", "abc"), syncOf("a")} {
		var code int
		if d, code = impl.DiskStep(d, op); (code == impl.DiskOK) != (i < 2) {
			t.Fatal(i, code)
		}
	}
	d = impl.DiskCrash(d, []int{2})
	if data, ok := impl.DiskRead(d, "a"); !ok || data != "ab" {
		t.Error(data, ok)
	}
	expectDone(t, "after the crash", d, appendTo("a", "!"), impl.File{Name: "a", Data: "ab!", Synced: 2})
}
