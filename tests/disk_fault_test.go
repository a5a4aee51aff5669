package tests

import (
	"testing"

	"loop.example/s02176/impl"
)

// refusedOps gives operations that threeFiles refuses, each with its code.
func refusedOps() map[impl.DiskOp]int {
	return map[impl.DiskOp]int{
		create("a"):                    impl.DiskExists,
		appendTo("b", ""):              impl.DiskMissing,
		appendTo("a", "1234567890123"): impl.DiskFull,
		syncOf("b"):                    impl.DiskMissing,
		truncate("b", 0):               impl.DiskMissing,
		truncate("a", 6):               impl.DiskBad,
		rename("b", "c"):               impl.DiskMissing,
		remove("b"):                    impl.DiskMissing,
	}
}

// allOps gives every kind of operation, done and refused.
func allOps() []impl.DiskOp {
	ops := kindsOf()
	for op := range refusedOps() {
		ops = append(ops, op)
	}
	return ops
}

func TestEveryAttemptCounts(t *testing.T) {
	for op, code := range refusedOps() {
		expectRefused(t, "a refused operation", threeFiles(), op, code)
	}
	for _, op := range kindsOf() {
		d, code := impl.DiskStep(threeFiles(), op)
		if code != impl.DiskOK || d.Count != 8 {
			t.Errorf("kind %d: code %d, count %d", op.Kind, code, d.Count)
		}
	}
}

func TestDownComesAheadOfTheMeter(t *testing.T) {
	for _, op := range allOps() {
		d := threeFiles()
		d.Down = true
		expectStep(t, "a disk that is down", d, op, d, impl.DiskDown)
		d.CrashAt, d.FailAt = 8, 8
		expectStep(t, "one that would crash and fail", d, op, d, impl.DiskDown)
		d.Count = impl.MaxCount
		expectStep(t, "one that has counted to the end", d, op, d, impl.DiskDown)
	}
}

func TestBadComesAheadOfDown(t *testing.T) {
	d := threeFiles()
	d.Down = true
	bad := []impl.DiskOp{{Kind: 0, Name: "m"}, {Kind: 7, Name: "m"}, create(""), rename("m", "M")}
	for _, op := range bad {
		expectStep(t, "an improper operation on a disk that is down", d, op, impl.Disk{}, impl.DiskBad)
	}
	d.Count = impl.MaxCount
	for _, op := range bad {
		expectStep(t, "and at the end of its count", d, op, impl.Disk{}, impl.DiskBad)
	}
	d.Cap = 17
	for _, op := range allOps() {
		expectStep(t, "a disk that isn't valid and is down", d, op, impl.Disk{}, impl.DiskBad)
	}
}

func TestCountAtItsEnd(t *testing.T) {
	for _, op := range allOps() {
		d := threeFiles()
		d.Count = impl.MaxCount
		expectStep(t, "at MaxCount", d, op, d, impl.DiskFailed)
		d.CrashAt, d.FailAt = impl.MaxCount, impl.MaxCount
		expectStep(t, "at MaxCount, with faults there", d, op, d, impl.DiskFailed)
	}
	d := impl.Disk{Count: impl.MaxCount - 1}
	expectDone(t, "the last operation that counts", d, create("a"), impl.File{Name: "a"})
	d.FailAt = impl.MaxCount
	expectRefused(t, "a fault at the last count", d, create("a"), impl.DiskFailed)
	d.CrashAt = impl.MaxCount
	want := d
	want.Count, want.Down = impl.MaxCount, true
	expectStep(t, "a crash at the last count", d, create("a"), want, impl.DiskDown)
}

func TestCrashAtAndFailAt(t *testing.T) {
	for _, op := range allOps() {
		plain, code := impl.DiskStep(threeFiles(), op)
		for _, at := range []int{0, 1, 6, 7, 9, impl.MaxCount} {
			d, want := threeFiles(), plain
			d.CrashAt, want.CrashAt = at, at
			expectStep(t, "CrashAt off the count", d, op, want, code)
			d.FailAt, want.FailAt = at, at
			expectStep(t, "both off the count", d, op, want, code)
			d.CrashAt, want.CrashAt = 0, 0
			expectStep(t, "FailAt off the count", d, op, want, code)
		}
		failing := threeFiles()
		failing.FailAt = 8
		expectRefused(t, "FailAt at the count", failing, op, impl.DiskFailed)
		failing.CrashAt = 9
		expectRefused(t, "FailAt at the count, CrashAt behind it", failing, op, impl.DiskFailed)
	}
}

func TestCrashAtTheCount(t *testing.T) {
	for _, op := range allOps() {
		for _, failAt := range []int{0, 7, 8, 9} {
			d := threeFiles()
			d.CrashAt, d.FailAt = 8, failAt
			want := cloneDisk(d)
			want.Count, want.Down = 8, true
			expectStep(t, "CrashAt at the count", d, op, want, impl.DiskDown)
			expectStep(t, "and once more", want, op, want, impl.DiskDown)
		}
	}
}

func TestAFaultIsMetOnce(t *testing.T) {
	d := impl.Disk{FailAt: 2}
	codes := []int{impl.DiskOK, impl.DiskFailed, impl.DiskOK}
	for i, name := range []string{"a", "b", "b"} {
		var code int
		d, code = impl.DiskStep(d, create(name))
		if code != codes[i] || d.Count != i+1 || d.FailAt != 2 {
			t.Fatal(i, code, d)
		}
	}
}
