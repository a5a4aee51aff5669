package tests

import (
	"fmt"
	"slices"
	"strings"
	"testing"

	"loop.example/s02176/impl"
)

// nearlySegments are file names that are no segment names.
func nearlySegments() []string {
	return []string{
		"000001", "1", "a-wal-000001", "wal", "wal-", "wal--00001", "wal-.00001", "wal-00000", "wal-000000",
		"wal-0000001", "wal-000001-", "wal-000001.", "wal-00000a", "wal-00001", "wal-1", "wal-1000000",
		"wal-99999999999999999999", "wal000001", "walwal-000001",
	}
}

func TestOpenWithoutASegment(t *testing.T) {
	first := impl.File{Name: "wal-000001"}
	expectOpen(t, "the empty disk", impl.Disk{},
		opened{impl.Disk{Files: []impl.File{first}, Count: 1}, impl.Log{First: 1, Last: 1}, nil, impl.LogOK})

	d := threeFiles()
	want := afterOps(t, d, create("wal-000001"))
	expectOpen(t, "other files", d, opened{want, impl.Log{First: 1, Last: 1}, nil, impl.LogOK})

	for _, name := range nearlySegments() {
		d = withFiles(firmFile(name, framesOf("no payload")))
		want = afterOps(t, d, create("wal-000001"))
		expectOpen(t, fmt.Sprintf("the name %q", name), d, opened{want, impl.Log{First: 1, Last: 1}, nil, impl.LogOK})
	}
}

func TestOpenReadsAllSegments(t *testing.T) {
	d := logDisk()
	expectOpen(t, "two segments among other files", d, opened{d, logOfDisk(), []string{"one", "three", "five"}, impl.LogOK})

	d = withFiles(firmFile("wal-000001", ""))
	expectOpen(t, "one that is empty", d, opened{d, impl.Log{First: 1, Last: 1}, nil, impl.LogOK})

	d = withFiles(firmFile("wal-000007", framesOf("a", "b")), firmFile("wal-000008", ""), firmFile("wal-000009", framesOf("c")), firmFile("wal-000010", ""))
	expectOpen(t, "empty ones between and behind", d, opened{d, impl.Log{First: 7, Last: 10}, []string{"a", "b", "c"}, impl.LogOK})

	d = withFiles(firmFile("wal-999998", framesOf("a")), firmFile("wal-999999", framesOf("b")))
	expectOpen(t, "the last numbers", d, opened{d, impl.Log{First: 999998, Last: 999999, Size: 9}, []string{"a", "b"}, impl.LogOK})

	var files []impl.File
	for _, name := range append(nearlySegments(), "wal-000001", "wal-000002") {
		files = append(files, firmFile(name, framesOf("x")))
	}
	slices.SortFunc(files, func(a, b impl.File) int { return strings.Compare(a.Name, b.Name) })
	d = impl.Disk{Files: files, Cap: 1000}
	expectOpen(t, "names that are nearly segments' beside them", d, opened{d, impl.Log{First: 1, Last: 2, Size: 9}, []string{"x", "x"}, impl.LogOK})
}

func TestOpenOfMaxFilesSegments(t *testing.T) {
	d := impl.Disk{Cap: impl.MaxDisk}
	var payloads []string
	for n := 1; n <= impl.MaxFiles; n++ {
		p := fmt.Sprint("number ", n)
		payloads = append(payloads, p)
		d.Files = append(d.Files, firmFile(impl.SegmentName(n), framesOf(p)))
	}
	expectOpen(t, "MaxFiles segments", d, opened{d, impl.Log{First: 1, Last: 1000, Size: 19}, payloads, impl.LogOK})
	d.Files[500].Name = "wal-000501.x"
	expectNoLog(t, "one of them taken out", d, d, impl.LogGap)
}

func TestOpenOfAGap(t *testing.T) {
	for _, numbers := range [][]int{{1, 3}, {1, 2, 4}, {1, 3, 4}, {2, 4, 5, 6}, {1, impl.MaxSegments}, {9, 11}, {99999, 100001}} {
		d := impl.Disk{Cap: 1000, Count: 3}
		for _, n := range numbers {
			d.Files = append(d.Files, firmFile(impl.SegmentName(n), framesOf("a")))
		}
		what := fmt.Sprint(numbers)
		expectNoLog(t, what, d, d, impl.LogGap)
		d.Files[0].Data += "?"
		expectNoLog(t, what+", the first torn", d, d, impl.LogGap)
		d.Files[len(numbers)-1].Data += "?"
		expectNoLog(t, what+", the last torn too", d, d, impl.LogGap)
	}
}

func TestOpenOfATornSegmentThatIsNotTheLast(t *testing.T) {
	bad := framesOf("ahead", "turned")
	ends := map[string]string{
		"a byte more":              framesOf("ahead") + "?",
		"a frame cut":              bad[:len(bad)-1],
		"a byte turned":            bad[:len(bad)-1] + "!",
		"a head alone":             bad[:impl.FrameHead+5+impl.FrameHead],
		"zeros":                    framesOf("ahead") + strings.Repeat("\x00", 16),
		"nothing but a torn place": "?",
	}
	for what, data := range ends {
		for i := range 3 {
			d := impl.Disk{Cap: 1000, Count: 3}
			for n := range 4 {
				d.Files = append(d.Files, firmFile(impl.SegmentName(n+6), framesOf("a")))
			}
			d.Files[i].Data = data
			for _, synced := range []int{0, len(data)} {
				d.Files[i].Synced = synced
				expectNoLog(t, fmt.Sprintf("%s, segment %d of 4", what, i), d, d, impl.LogCorrupt)
			}
			d.Files[3].Data += "?"
			expectNoLog(t, what+", the last torn too", d, d, impl.LogCorrupt)
		}
	}
}

func TestOpenCutsATornEnd(t *testing.T) {
	whole := framesOf("one", "two")
	torn := impl.Frame("torn")
	ends := []string{"?", strings.Repeat("\x00", 8), strings.Repeat("\x00", 99), torn[:len(torn)-1] + "!", "\x00\x00\xea\x61" + bytesLong(20)}
	for cut := 1; cut < len(torn); cut++ {
		ends = append(ends, torn[:cut])
	}
	for _, end := range ends {
		data := whole + end
		for _, synced := range []int{0, 5, len(whole), len(whole) + 1, len(data)} {
			d := logDisk()
			d.Files[lastOf].Data, d.Files[lastOf].Synced = data, synced
			want := afterOps(t, d, truncate("wal-000005", len(whole)))
			if want.Count != d.Count+1 || want.Files[lastOf] != firmFile("wal-000005", whole) {
				t.Fatal(want)
			}
			expectOpen(t, fmt.Sprintf("%q, %d synced", end, synced), d,
				opened{want, impl.Log{First: 4, Last: 5, Size: len(whole)}, []string{"one", "three", "one", "two"}, impl.LogOK})
		}
		d := withFiles(impl.File{Name: "wal-000002", Data: end})
		d.Cap = 1000
		want := afterOps(t, d, truncate("wal-000002", 0))
		expectOpen(t, fmt.Sprintf("%q alone", end), d, opened{want, impl.Log{First: 2, Last: 2}, nil, impl.LogOK})
	}
}

func TestOpenSyncsWhatIsNotSynced(t *testing.T) {
	whole := framesOf("one", "two")
	for synced := range len(whole) {
		d := logDisk()
		d.Files[lastOf] = impl.File{Name: "wal-000005", Data: whole, Synced: synced}
		want := afterOps(t, d, syncOf("wal-000005"))
		expectOpen(t, fmt.Sprint(synced, " bytes synced"), d,
			opened{want, impl.Log{First: 4, Last: 5, Size: len(whole)}, []string{"one", "three", "one", "two"}, impl.LogOK})
	}
	d := logDisk()
	for i := range d.Files {
		if i != lastOf {
			d.Files[i].Synced = 0
		}
	}
	expectOpen(t, "files that aren't the last segment stay as they are", d, opened{d, logOfDisk(), []string{"one", "three", "five"}, impl.LogOK})
}

func TestOpenOfADiskThatIsDown(t *testing.T) {
	disks := []impl.Disk{{}, threeFiles(), logDisk(), tornDisk(), looseDisk()}
	gap, corrupt := logDisk(), logDisk()
	gap.Files[1].Name = "wal-000003"
	corrupt.Files[1].Data += "?"
	for _, d := range append(disks, gap, corrupt) {
		d.Down = true
		expectNoLog(t, "down", d, d, impl.DiskDown)
		d.CrashAt, d.FailAt = d.Count+1, d.Count+1
		expectNoLog(t, "down, with faults to come", d, d, impl.DiskDown)
		d.Count = impl.MaxCount
		expectNoLog(t, "down, at MaxCount", d, d, impl.DiskDown)
	}
}

func TestOpenOfWhatIsNoDisk(t *testing.T) {
	for what, d := range invalidDisks() {
		expectNoLog(t, what, d, impl.Disk{}, impl.DiskBad)
		d.Down = true
		expectNoLog(t, what+", down", d, impl.Disk{}, impl.DiskBad)
	}
	d := logDisk()
	d.Files[1], d.Files[3] = d.Files[3], d.Files[1]
	expectNoLog(t, "segments out of order", d, impl.Disk{}, impl.DiskBad)
}

func TestOpenASecondTimeAsksForNothing(t *testing.T) {
	for _, d := range []impl.Disk{{}, threeFiles(), logDisk(), tornDisk(), looseDisk()} {
		first := openOf(d)
		if first.code != impl.LogOK {
			t.Fatal(first)
		}
		expectOpen(t, "once more", first.disk, first)
	}
}
