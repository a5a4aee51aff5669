package tests

import (
	"maps"
	"slices"
	"strings"
	"testing"

	"loop.example/s02176/impl"
)

// modelDisk is chapter 1 once more, written another way: files in a map, and codes straight away.
type modelDisk struct {
	files map[string]impl.File
	rest  impl.Disk // all but the files
}

func (m *modelDisk) disk() impl.Disk {
	d := m.rest
	for _, name := range slices.Sorted(maps.Keys(m.files)) {
		d.Files = append(d.Files, m.files[name])
	}
	return d
}

func (m *modelDisk) bytes() int {
	n := 0
	for _, f := range m.files {
		n += len(f.Data)
	}
	return n
}

func (m *modelDisk) step(op impl.DiskOp) int {
	if m.rest.Down {
		return impl.DiskDown
	}
	m.rest.Count++
	switch m.rest.Count {
	case m.rest.CrashAt:
		m.rest.Down = true
		return impl.DiskDown
	case m.rest.FailAt:
		return impl.DiskFailed
	}
	f, there := m.files[op.Name]
	if there == (op.Kind == impl.DoCreate) {
		if there {
			return impl.DiskExists
		}
		return impl.DiskMissing
	}
	return m.change(op, f)
}

func (m *modelDisk) change(op impl.DiskOp, f impl.File) int {
	f.Name = op.Name
	switch op.Kind {
	case impl.DoAppend:
		if m.bytes()+len(op.Data) > m.rest.Cap {
			return impl.DiskFull
		}
		f.Data += op.Data
	case impl.DoSync:
		f.Synced = len(f.Data)
	case impl.DoTruncate:
		if op.Size < 0 || op.Size > len(f.Data) {
			return impl.DiskBad
		}
		f.Data, f.Synced = f.Data[:op.Size], op.Size
	case impl.DoRename:
		delete(m.files, op.Name)
		f.Name = op.To
	case impl.DoDelete:
		delete(m.files, op.Name)
		return impl.DiskOK
	}
	m.files[f.Name] = f
	return impl.DiskOK
}

// dice is a source of numbers that are the same in every run.
type dice uint64

func (r *dice) below(n int) int {
	*r = *r*6364136223846793005 + 1442695040888963407
	return int(uint64(*r)>>33) % n
}

func (r *dice) op() impl.DiskOp {
	names := []string{"a", "a-", "b", "ckpt", "ckpt.tmp", "z"}
	return impl.DiskOp{
		Kind: 1 + r.below(6),
		Name: names[r.below(len(names))],
		To:   names[r.below(len(names))],
		Data: strings.Repeat(string(rune('a'+r.below(26))), r.below(9)),
		Size: r.below(12) - 1,
	}
}

// checkCrash asks for promise 1's second half, with no more than the disk itself.
func checkCrash(t *testing.T, d impl.Disk, keep []int) impl.Disk {
	t.Helper()
	got := impl.DiskCrash(d, keep)
	if !impl.DiskValid(got) || len(got.Files) != len(d.Files) || got.Down || got.CrashAt != 0 || got.FailAt != 0 || got.Cap != d.Cap || got.Count != d.Count {
		t.Fatalf("a crash made %+v of %+v", got, d)
	}
	for i, f := range got.Files {
		old := d.Files[i]
		if f.Name != old.Name || f.Synced != len(f.Data) || !strings.HasPrefix(f.Data, old.Data[:old.Synced]) || !strings.HasPrefix(old.Data, f.Data) {
			t.Fatalf("a crash made %+v of %+v", f, old)
		}
	}
	return got
}

func TestStepsAgainstAModel(t *testing.T) {
	seen := [impl.DiskBad + 1]int{}
	for seed := range 400 {
		r := dice(seed)
		d := impl.Disk{Cap: r.below(60), CrashAt: r.below(300), FailAt: r.below(120)}
		m := &modelDisk{files: map[string]impl.File{}, rest: d}
		for range 150 {
			op, before := r.op(), cloneDisk(d)
			got, code := impl.DiskStep(d, op)
			want := m.step(op)
			seen[want]++
			if code != want || !sameDisk(got, m.disk()) || !impl.DiskValid(got) || !sameDisk(d, before) {
				t.Fatalf("seed %d: %+v on %+v: %d and %+v, not %d and %+v", seed, op, before, code, got, want, m.disk())
			}
			d = got
			checkCrash(t, d, []int{r.below(12) - 2, r.below(12) - 2, r.below(12) - 2})
		}
	}
	for code, n := range seen {
		if n == 0 {
			t.Errorf("no step was answered %d: the test is too tame", code)
		}
	}
}
