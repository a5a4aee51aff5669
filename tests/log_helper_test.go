package tests

import (
	"slices"
	"strings"
	"testing"

	"loop.example/s02176/impl"
)

// framesOf gives the frames of the payloads, one right after another.
func framesOf(payloads ...string) string {
	all := ""
	for _, p := range payloads {
		all += impl.Frame(p)
	}
	return all
}

// firmFile has all of its bytes synced.
func firmFile(name, data string) impl.File {
	return impl.File{Name: name, Data: data, Synced: len(data)}
}

// logDisk has two segments, with a file ahead of them, one between and one behind.
func logDisk() impl.Disk {
	return impl.Disk{
		Files: []impl.File{
			firmFile("ckpt", "state"),
			firmFile("wal-000004", framesOf("one", "three")),
			firmFile("wal-000004.old", "junk"),
			firmFile("wal-000005", framesOf("five")),
			firmFile("x", "junk"),
		},
		Cap:   1000,
		Count: 20,
	}
}

// logOfDisk is the log of logDisk: its last segment has the frame of "five", 12 bytes.
func logOfDisk() impl.Log { return impl.Log{First: 4, Last: 5, Size: 12} }

// lastOf is where logDisk has its last segment.
const lastOf = 3

// tornDisk is logDisk with a whole frame and a torn one behind it, both not synced.
func tornDisk() impl.Disk {
	d := logDisk()
	d.Files[lastOf].Data += framesOf("six") + impl.Frame("seven")[:9]
	return d
}

// looseDisk is logDisk with a whole frame behind it that isn't synced.
func looseDisk() impl.Disk {
	d := logDisk()
	d.Files[lastOf].Data += framesOf("six")
	return d
}

// opened and appended are all that the two calls answer.
type opened struct {
	disk     impl.Disk
	log      impl.Log
	payloads []string
	code     int
}

type appended struct {
	disk impl.Disk
	log  impl.Log
	code int
}

func openOf(d impl.Disk) opened {
	disk, log, payloads, code := impl.LogOpen(d)
	return opened{disk, log, payloads, code}
}

func (a opened) same(b opened) bool {
	return sameDisk(a.disk, b.disk) && a.log == b.log && slices.Equal(a.payloads, b.payloads) && a.code == b.code
}

func appendOf(d impl.Disk, log impl.Log, payload string, most int) appended {
	disk, after, code := impl.LogAppend(d, log, payload, most)
	return appended{disk, after, code}
}

func (a appended) same(b appended) bool {
	return sameDisk(a.disk, b.disk) && a.log == b.log && a.code == b.code
}

// expectOpen asks for just this answer, and that d is as it was.
func expectOpen(t *testing.T, what string, d impl.Disk, want opened) {
	t.Helper()
	before := cloneDisk(d)
	if got := openOf(d); !got.same(want) {
		t.Errorf("%s: %+v, not %+v", what, got, want)
	}
	if !sameDisk(d, before) {
		t.Errorf("%s: the argument became %+v, was %+v", what, d, before)
	}
}

// expectNoLog asks for a code and a disk alone.
func expectNoLog(t *testing.T, what string, d, after impl.Disk, code int) {
	t.Helper()
	expectOpen(t, what, d, opened{disk: after, code: code})
}

// expectAppend asks for just this answer, and that d is as it was.
func expectAppend(t *testing.T, what string, d impl.Disk, log impl.Log, payload string, most int, want appended) {
	t.Helper()
	before := cloneDisk(d)
	if got := appendOf(d, log, payload, most); !got.same(want) {
		t.Errorf("%s: %+v, not %+v", what, got, want)
	}
	if !sameDisk(d, before) {
		t.Errorf("%s: the argument became %+v, was %+v", what, d, before)
	}
}

// expectUnasked asks for a code with the disk and the log as they were.
func expectUnasked(t *testing.T, what string, d impl.Disk, log impl.Log, payload string, most, code int) {
	t.Helper()
	expectAppend(t, what, d, log, payload, most, appended{cloneDisk(d), log, code})
}

// afterOps carries the operations out, one after another: each of them must be done.
func afterOps(t *testing.T, d impl.Disk, ops ...impl.DiskOp) impl.Disk {
	t.Helper()
	for _, op := range ops {
		next, code := impl.DiskStep(d, op)
		if code != impl.DiskOK {
			t.Fatalf("%+v: code %d", op, code)
		}
		d = next
	}
	return d
}

// bytesLong gives a payload of n bytes.
func bytesLong(n int) string { return strings.Repeat("p", n) }
