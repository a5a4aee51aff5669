package tests

import (
	"fmt"
	"strings"
	"testing"

	"loop.example/s02176/impl"
)

func withFiles(files ...impl.File) impl.Disk { return impl.Disk{Files: files, Cap: 100} }

func validDisks() map[string]impl.Disk {
	long := strings.Repeat("x", impl.MaxFile)
	return map[string]impl.Disk{
		"the empty disk":        {},
		"three files":           threeFiles(),
		"a disk that is down":   {Down: true},
		"the greatest numbers":  {Cap: impl.MaxDisk, Count: impl.MaxCount, CrashAt: impl.MaxCount, FailAt: impl.MaxCount},
		"MaxFiles files":        {Files: numberedFiles(impl.MaxFiles)},
		"a name of MaxFile":     withFiles(impl.File{Name: long}),
		"every sort of byte":    withFiles(impl.File{Name: "-.09az"}),
		"a beginning first":     withFiles(impl.File{Name: "a"}, impl.File{Name: "a-"}, impl.File{Name: "a-b"}),
		"byte order":            withFiles(impl.File{Name: "-"}, impl.File{Name: "."}, impl.File{Name: "10"}, impl.File{Name: "9"}, impl.File{Name: "a"}),
		"nothing synced":        withFiles(impl.File{Name: "a", Data: "xyz"}),
		"all synced":            withFiles(impl.File{Name: "a", Data: "xyz", Synced: 3}),
		"Cap met exactly":       {Files: []impl.File{{Name: "a", Data: "xy"}, {Name: "b", Data: "z"}}, Cap: 3},
		"faults behind its way": {Count: 9, CrashAt: 3, FailAt: 3},
	}
}

func invalidDisks() map[string]impl.Disk {
	disks := map[string]impl.Disk{
		"MaxFiles + 1 files":  {Files: numberedFiles(impl.MaxFiles + 1), Cap: 100},
		"not in order":        withFiles(impl.File{Name: "b"}, impl.File{Name: "a"}),
		"two of one name":     withFiles(impl.File{Name: "a"}, impl.File{Name: "a"}),
		"a beginning behind":  withFiles(impl.File{Name: "a-"}, impl.File{Name: "a"}),
		"the last two wrong":  withFiles(impl.File{Name: "a"}, impl.File{Name: "c"}, impl.File{Name: "b"}),
		"Synced below 0":      withFiles(impl.File{Name: "a", Data: "x", Synced: -1}),
		"Synced above Data":   withFiles(impl.File{Name: "a", Data: "x", Synced: 2}),
		"Synced of no Data":   withFiles(impl.File{Name: "a"}, impl.File{Name: "b", Synced: 1}),
		"Cap passed":          {Files: []impl.File{{Name: "a", Data: "xy"}, {Name: "b", Data: "z"}}, Cap: 2},
		"Cap 0 passed":        {Files: []impl.File{{Name: "a", Data: "x"}}},
		"Cap below 0":         {Cap: -1},
		"Cap above MaxDisk":   {Cap: impl.MaxDisk + 1},
		"Count below 0":       {Count: -1},
		"Count above its end": {Count: impl.MaxCount + 1},
		"CrashAt below 0":     {CrashAt: -1},
		"CrashAt above":       {CrashAt: impl.MaxCount + 1},
		"FailAt below 0":      {FailAt: -1},
		"FailAt above":        {FailAt: impl.MaxCount + 1},
		"the lowest numbers":  {Cap: -1 << 63, Count: -1 << 63, CrashAt: -1 << 63, FailAt: -1 << 63},
	}
	for _, name := range improperNames() {
		disks[fmt.Sprintf("the name %q", name)] = withFiles(impl.File{Name: name, Data: "x"})
	}
	return disks
}

func TestDiskValid(t *testing.T) {
	for what, d := range validDisks() {
		if !impl.DiskValid(d) {
			t.Errorf("%s: not valid", what)
		}
	}
	for what, d := range invalidDisks() {
		if impl.DiskValid(d) {
			t.Errorf("%s: valid", what)
		}
	}
}

func TestDisksThatAreNotValid(t *testing.T) {
	for what, d := range invalidDisks() {
		for _, op := range allOps() {
			expectStep(t, what, d, op, impl.Disk{}, impl.DiskBad)
		}
		for _, f := range d.Files {
			if data, ok := impl.DiskRead(d, f.Name); ok || data != "" {
				t.Errorf("%s: read %q, %v", what, data, ok)
			}
		}
		d.Down = true
		if got := impl.DiskCrash(d, []int{1, 1}); !sameDisk(got, impl.Disk{}) {
			t.Errorf("%s: crashed to %+v", what, got)
		}
	}
}

func TestDiskRead(t *testing.T) {
	d := threeFiles()
	for _, f := range d.Files {
		if data, ok := impl.DiskRead(d, f.Name); !ok || data != f.Data {
			t.Errorf("%s: %q, %v", f.Name, data, ok)
		}
	}
	if data, ok := impl.DiskRead(withFiles(impl.File{Name: "a"}), "a"); !ok || data != "" {
		t.Errorf("an empty file: %q, %v", data, ok)
	}
	for _, name := range append(improperNames(), "0", "b", "zz") {
		if data, ok := impl.DiskRead(d, name); ok || data != "" {
			t.Errorf("no file %q: %q, %v", name, data, ok)
		}
	}
	d.Down = true
	for _, name := range []string{"a", "m", "z", "b"} {
		if data, ok := impl.DiskRead(d, name); ok || data != "" {
			t.Errorf("%s of a disk that is down: %q, %v", name, data, ok)
		}
	}
}
