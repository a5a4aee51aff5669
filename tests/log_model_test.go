package tests

import (
	"fmt"
	"regexp"
	"slices"
	"strconv"
	"testing"

	"loop.example/s02176/impl"
)

var segmentForm = regexp.MustCompile(`^wal-([0-9]{6})$`)

// script carries operations out on a disk, up to the first that is refused.
type script struct {
	disk impl.Disk
	code int
}

func (s *script) do(op impl.DiskOp) bool {
	if s.code == impl.DiskOK {
		s.disk, s.code = impl.DiskStep(s.disk, op)
	}
	return s.code == impl.DiskOK
}

// modelOpen is LogOpen once more, written on DiskStep, with numbers taken from the names.
func modelOpen(d impl.Disk) opened {
	if d.Down {
		return opened{disk: d, code: impl.DiskDown}
	}
	s := script{disk: d}
	var segments []impl.File
	var numbers []int
	for _, f := range d.Files {
		if form := segmentForm.FindStringSubmatch(f.Name); form != nil && form[1] != "000000" {
			n, _ := strconv.Atoi(form[1])
			segments, numbers = append(segments, f), append(numbers, n)
		}
	}
	if len(segments) == 0 {
		if !s.do(create("wal-000001")) {
			return opened{disk: s.disk, code: s.code}
		}
		return opened{disk: s.disk, log: impl.Log{First: 1, Last: 1}}
	}
	for i := range numbers[1:] {
		if numbers[i+1] != numbers[i]+1 {
			return opened{disk: d, code: impl.LogGap}
		}
	}
	var all []string
	last, size := segments[len(segments)-1], 0
	for i, f := range segments {
		payloads, n := impl.Scan(f.Data)
		if n != len(f.Data) && i+1 != len(segments) {
			return opened{disk: d, code: impl.LogCorrupt}
		}
		all, size = append(all, payloads...), n
	}
	switch {
	case size < len(last.Data):
		s.do(truncate(last.Name, size))
	case last.Synced < size:
		s.do(syncOf(last.Name))
	}
	if s.code != impl.DiskOK {
		return opened{disk: s.disk, code: s.code}
	}
	return opened{s.disk, impl.Log{First: numbers[0], Last: numbers[len(numbers)-1], Size: size}, all, impl.LogOK}
}

// modelAppend is LogAppend once more, for a log, a payload and a most that are as they should be.
func modelAppend(d impl.Disk, log impl.Log, payload string, most int) appended {
	s, f := script{disk: d}, impl.Frame(payload)
	if log.Size != 0 && log.Size+len(f) > most {
		if log.Last == impl.MaxSegments {
			return appended{d, log, impl.LogEnd}
		}
		if !s.do(create(fmt.Sprintf("wal-%06d", log.Last+1))) {
			return appended{s.disk, log, s.code}
		}
		log = impl.Log{First: log.First, Last: log.Last + 1}
	}
	name := fmt.Sprintf("wal-%06d", log.Last)
	s.do(appendTo(name, f))
	if s.do(syncOf(name)) {
		log.Size += len(f)
	}
	return appended{s.disk, log, s.code}
}

// segmentData is mostly frames, and now and then torn.
func (r *dice) segmentData() string {
	data := ""
	for range r.below(4) {
		data += impl.Frame(r.bytes(6) + ".")
	}
	if r.below(4) == 0 {
		torn := impl.Frame(r.bytes(6) + ".")
		data += torn[:r.below(len(torn))]
	}
	return data
}

func (r *dice) segmentedDisk() impl.Disk {
	d := impl.Disk{Cap: impl.MaxDisk, Count: r.below(5), Down: r.below(20) == 0}
	n := r.below(4)
	if r.below(8) == 0 {
		n = impl.MaxSegments - r.below(3)
	}
	for range r.below(4) {
		n += 1 + r.below(8)/7
		data := r.segmentData()
		f := impl.File{Name: fmt.Sprintf("wal-%06d", n), Data: data, Synced: r.below(len(data) + 1)}
		if n <= impl.MaxSegments {
			d.Files = append(d.Files, f)
		}
	}
	if r.below(3) == 0 {
		d.CrashAt = d.Count + r.below(4)
	}
	if r.below(3) == 0 {
		d.FailAt = d.Count + r.below(4)
	}
	if r.below(5) == 0 {
		d.Cap = r.below(12)
		for _, f := range d.Files {
			d.Cap += len(f.Data)
		}
	}
	return d
}

func TestOpenAgainstAModel(t *testing.T) {
	seen := map[int]int{}
	for seed := range 20000 {
		r := dice(seed)
		d := r.segmentedDisk()
		want := modelOpen(d)
		seen[want.code]++
		expectOpen(t, fmt.Sprint("seed ", seed), d, want)
		if t.Failed() {
			t.FailNow()
		}
	}
	expectSeen(t, seen, impl.LogOK, impl.LogGap, impl.LogCorrupt, impl.DiskDown, impl.DiskFailed)
}

func TestAppendAgainstAModel(t *testing.T) {
	seen := map[int]int{}
	for seed := range 20000 {
		r := dice(seed)
		d := r.segmentedDisk()
		log := impl.Log{First: 1, Last: 1 + r.below(4), Size: r.below(40)}
		if len(d.Files) > 0 && r.below(8) > 0 {
			last := d.Files[len(d.Files)-1]
			log.Last, _ = strconv.Atoi(last.Name[4:])
			log.Size = len(last.Data)
		}
		payload, most := r.bytes(10)+".", 1+r.below(50)
		want := modelAppend(d, log, payload, most)
		seen[want.code]++
		expectAppend(t, fmt.Sprint("seed ", seed), d, log, payload, most, want)
		if t.Failed() {
			t.FailNow()
		}
	}
	expectSeen(t, seen, impl.LogOK, impl.LogEnd, impl.DiskDown, impl.DiskFailed, impl.DiskFull, impl.DiskMissing)
}

func expectSeen(t *testing.T, seen map[int]int, codes ...int) {
	t.Helper()
	for _, code := range codes {
		if seen[code] == 0 {
			t.Errorf("nothing was answered %d: the test is too tame", code)
		}
	}
}

// writeToACrash appends payloads until the disk goes down, and gives those that were answered and the one under way.
func writeToACrash(r *dice, d impl.Disk, log impl.Log) (impl.Disk, []string, string) {
	d.CrashAt = d.Count + 1 + r.below(12)
	var answered []string
	for {
		payload := r.bytes(12) + "."
		code := impl.LogOK
		d, log, code = impl.LogAppend(d, log, payload, 30)
		if code != impl.LogOK {
			return d, answered, payload
		}
		answered = append(answered, payload)
	}
}

func TestCrashesKeepWhatWasAnswered(t *testing.T) {
	lost, kept := 0, 0
	for seed := range 300 {
		r := dice(seed)
		got := openOf(impl.Disk{Cap: 4000})
		for range 6 {
			before := got.payloads
			d, answered, underWay := writeToACrash(&r, got.disk, got.log)
			keep := make([]int, len(d.Files))
			for i := range keep {
				keep[i] = r.below(30)
			}
			got = openOf(impl.DiskCrash(d, keep))
			want := slices.Concat(before, answered)
			if len(got.payloads) > len(want) {
				want = append(want, underWay)
				kept++
			} else {
				lost++
			}
			if !d.Down || got.code != impl.LogOK || !slices.Equal(got.payloads, want) {
				t.Fatalf("seed %d: %d, %q, not %q", seed, got.code, got.payloads, want)
			}
		}
	}
	if lost == 0 || kept == 0 {
		t.Errorf("%d payloads under way were lost and %d kept: the test is too tame", lost, kept)
	}
}
