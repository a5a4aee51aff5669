package tests

import (
	"fmt"
	"strings"
	"testing"

	"loop.example/s02176/impl"
)

var (
	loose = impl.File{Name: "a", Data: "loose"}
	half  = impl.File{Name: "m", Data: "half-half", Synced: 4}
	firm  = impl.File{Name: "z", Data: "firm", Synced: 4}
)

func create(name string) impl.DiskOp { return impl.DiskOp{Kind: impl.DoCreate, Name: name} }

func appendTo(name, data string) impl.DiskOp {
	return impl.DiskOp{Kind: impl.DoAppend, Name: name, Data: data}
}

func syncOf(name string) impl.DiskOp { return impl.DiskOp{Kind: impl.DoSync, Name: name} }

func truncate(name string, size int) impl.DiskOp {
	return impl.DiskOp{Kind: impl.DoTruncate, Name: name, Size: size}
}

func rename(name, to string) impl.DiskOp {
	return impl.DiskOp{Kind: impl.DoRename, Name: name, To: to}
}

func remove(name string) impl.DiskOp { return impl.DiskOp{Kind: impl.DoDelete, Name: name} }

func TestCreate(t *testing.T) {
	d := threeFiles()
	expectDone(t, "ahead of all", d, create("0"), impl.File{Name: "0"}, loose, half, firm)
	expectDone(t, "between", d, create("a-"), loose, impl.File{Name: "a-"}, half, firm)
	expectDone(t, "behind all", d, create("z.1"), loose, half, firm, impl.File{Name: "z.1"})
	expectDone(t, "on an empty disk", impl.Disk{}, create("a"), impl.File{Name: "a"})
	for _, name := range []string{"a", "m", "z"} {
		expectRefused(t, "of "+name+" that is there", d, create(name), impl.DiskExists)
	}
	op := impl.DiskOp{Kind: impl.DoCreate, Name: "b", To: "No Name", Data: strings.Repeat("x", 99), Size: -5}
	expectDone(t, "with fields that it doesn't use", d, op, loose, impl.File{Name: "b"}, half, firm)
}

func TestCreateOnAFullTable(t *testing.T) {
	d := impl.Disk{Files: numberedFiles(impl.MaxFiles - 1), Cap: 10}
	files := append(numberedFiles(impl.MaxFiles-1), impl.File{Name: "last"})
	expectDone(t, "file number MaxFiles", d, create("last"), files...)
	d.Files = files
	expectRefused(t, "one file more", d, create("more"), impl.DiskFull)
	expectRefused(t, "a file that is there, on a full table", d, create("last"), impl.DiskExists)
	expectDone(t, "a rename on a full table", d, rename("last", "g"), append(numberedFiles(impl.MaxFiles-1), impl.File{Name: "g"})...)
}

func TestAppend(t *testing.T) {
	d := threeFiles()
	expectDone(t, "to loose bytes", d, appendTo("a", "!"), impl.File{Name: "a", Data: "loose!"}, half, firm)
	expectDone(t, "to half synced bytes", d, appendTo("m", "!"), loose, impl.File{Name: "m", Data: "half-half!", Synced: 4}, firm)
	expectDone(t, "to synced bytes", d, appendTo("z", "\x00\xff"), loose, half, impl.File{Name: "z", Data: "firm\x00\xff", Synced: 4})
	expectDone(t, "of nothing", d, appendTo("z", ""), loose, half, firm)
	expectRefused(t, "to no file", d, appendTo("b", "!"), impl.DiskMissing)
	expectRefused(t, "of nothing to no file", d, appendTo("b", ""), impl.DiskMissing)
}

func TestAppendAtCap(t *testing.T) {
	d := threeFiles()
	d.Cap = 20
	expectDone(t, "Cap met exactly", d, appendTo("z", "12"), loose, half, impl.File{Name: "z", Data: "firm12", Synced: 4})
	expectRefused(t, "Cap passed by a byte", d, appendTo("z", "123"), impl.DiskFull)
	expectRefused(t, "too much for a file that isn't there", d, appendTo("b", "123"), impl.DiskMissing)
	d.Cap = 18
	expectDone(t, "nothing, on a full disk", d, appendTo("a", ""), loose, half, firm)
	expectRefused(t, "a byte, on a full disk", d, appendTo("a", "1"), impl.DiskFull)
	expectDone(t, "a file, on a full disk", d, create("b"), loose, impl.File{Name: "b"}, half, firm)
	expectRefused(t, "a byte, on a disk of Cap 0", impl.Disk{Files: []impl.File{{Name: "a"}}}, appendTo("a", "1"), impl.DiskFull)
}

func TestSync(t *testing.T) {
	d := threeFiles()
	expectDone(t, "of loose bytes", d, syncOf("a"), impl.File{Name: "a", Data: "loose", Synced: 5}, half, firm)
	expectDone(t, "of half synced bytes", d, syncOf("m"), loose, impl.File{Name: "m", Data: "half-half", Synced: 9}, firm)
	expectDone(t, "of synced bytes", d, syncOf("z"), loose, half, firm)
	expectRefused(t, "of no file", d, syncOf("b"), impl.DiskMissing)
}

func TestTruncate(t *testing.T) {
	d := threeFiles()
	expectDone(t, "to nothing", d, truncate("m", 0), loose, impl.File{Name: "m"}, firm)
	expectDone(t, "below what is synced", d, truncate("m", 3), loose, impl.File{Name: "m", Data: "hal", Synced: 3}, firm)
	expectDone(t, "above what is synced", d, truncate("m", 6), loose, impl.File{Name: "m", Data: "half-h", Synced: 6}, firm)
	expectDone(t, "to all of it", d, truncate("m", 9), loose, impl.File{Name: "m", Data: "half-half", Synced: 9}, firm)
	expectDone(t, "of loose bytes", d, truncate("a", 2), impl.File{Name: "a", Data: "lo", Synced: 2}, half, firm)
	for _, size := range []int{-1, 10, 1 << 62, -1 << 63} {
		expectRefused(t, "to a size out of the file", d, truncate("m", size), impl.DiskBad)
		expectRefused(t, "of no file", d, truncate("b", size), impl.DiskMissing)
	}
	expectRefused(t, "of no file to nothing", d, truncate("b", 0), impl.DiskMissing)
}

func TestRename(t *testing.T) {
	d := threeFiles()
	moved := func(name string) impl.File { return impl.File{Name: name, Data: "half-half", Synced: 4} }
	expectDone(t, "ahead of all", d, rename("m", "0"), moved("0"), loose, firm)
	expectDone(t, "to the same place", d, rename("m", "n"), loose, moved("n"), firm)
	expectDone(t, "behind all", d, rename("m", "z-"), loose, firm, moved("z-"))
	expectDone(t, "onto itself", d, rename("m", "m"), loose, half, firm)
	expectDone(t, "onto the file ahead", d, rename("m", "a"), moved("a"), firm)
	expectDone(t, "onto the file behind", d, rename("m", "z"), loose, moved("z"))
	expectDone(t, "of the last onto the first", d, rename("z", "a"), impl.File{Name: "a", Data: "firm", Synced: 4}, half)
	expectRefused(t, "of no file", d, rename("b", "c"), impl.DiskMissing)
	expectRefused(t, "of no file onto one", d, rename("b", "a"), impl.DiskMissing)
	expectRefused(t, "of no file onto itself", d, rename("b", "b"), impl.DiskMissing)
}

func TestDelete(t *testing.T) {
	d := threeFiles()
	expectDone(t, "of the first", d, remove("a"), half, firm)
	expectDone(t, "of one between", d, remove("m"), loose, firm)
	expectDone(t, "of the last", d, remove("z"), loose, half)
	expectDone(t, "of the only one", impl.Disk{Files: []impl.File{{Name: "a"}}}, remove("a"))
	expectRefused(t, "of no file", d, remove("b"), impl.DiskMissing)
	expectRefused(t, "on an empty disk", impl.Disk{}, remove("a"), impl.DiskMissing)
}

func TestDeletedBytesAreFree(t *testing.T) {
	d := threeFiles()
	d.Cap = 18
	d, code := impl.DiskStep(d, remove("m"))
	if code != impl.DiskOK {
		t.Fatal(code)
	}
	expectDone(t, "the bytes of a deleted file", d, appendTo("a", "123456789"), impl.File{Name: "a", Data: "loose123456789"}, firm)
	expectRefused(t, "a byte more", d, appendTo("a", "1234567890"), impl.DiskFull)
}

func TestImproperOperations(t *testing.T) {
	d := threeFiles()
	for _, kind := range []int{0, 7, -1, 1 << 40, -1 << 63} {
		expectStep(t, "a kind that isn't one", d, impl.DiskOp{Kind: kind, Name: "m", To: "b"}, impl.Disk{}, impl.DiskBad)
	}
	for _, name := range improperNames() {
		for _, op := range kindsOf() {
			op.Name = name
			expectStep(t, fmt.Sprintf("the name %q", name), d, op, impl.Disk{}, impl.DiskBad)
		}
		expectStep(t, fmt.Sprintf("a rename to %q", name), d, rename("m", name), impl.Disk{}, impl.DiskBad)
		expectStep(t, fmt.Sprintf("a rename of no file to %q", name), d, rename("b", name), impl.Disk{}, impl.DiskBad)
	}
}

func TestToCountsOnlyInARename(t *testing.T) {
	for _, op := range kindsOf() {
		if op.Kind == impl.DoRename {
			continue
		}
		want, _ := impl.DiskStep(threeFiles(), op)
		op.To = "No Name"
		expectStep(t, "a To that isn't used", threeFiles(), op, want, impl.DiskOK)
	}
}

func TestNamesAtTheirEdges(t *testing.T) {
	long := strings.Repeat("n", impl.MaxFile)
	for _, name := range []string{"a", "z", "0", "9", "-", ".", "..", "-.-", "wal-000001", long} {
		expectDone(t, fmt.Sprintf("the name %q", name), impl.Disk{}, create(name), impl.File{Name: name})
		d := impl.Disk{Files: []impl.File{{Name: "q"}}}
		expectDone(t, fmt.Sprintf("a rename to %q", name), d, rename("q", name), impl.File{Name: name})
	}
}

// improperNames has the neighbours of every run of bytes that a file name may have.
func improperNames() []string {
	names := []string{"", strings.Repeat("n", impl.MaxFile+1), "a b", "A", "Z", "a_", "a\x00", "é", "\xff", "a\n", " a", "a/", "m "}
	for _, b := range []byte{'a' - 1, 'z' + 1, '0' - 1, '9' + 1, '-' - 1, 0, 127, 128} {
		names = append(names, string([]byte{'m', b}))
	}
	return names
}
