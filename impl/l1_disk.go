package impl

import (
	"cmp"
	"errors"
	"slices"
	"strings"
)

const (
	MaxFiles = 1000
	MaxFile  = 40
	MaxDisk  = 1000000000
	MaxCount = 1000000000000000
)

const (
	DiskOK      = 0
	DiskDown    = 1
	DiskFailed  = 2
	DiskFull    = 3
	DiskMissing = 4
	DiskExists  = 5
	DiskBad     = 6
)

const (
	DoCreate   = 1
	DoAppend   = 2
	DoSync     = 3
	DoTruncate = 4
	DoRename   = 5
	DoDelete   = 6
)

type File struct {
	Name   string
	Data   string
	Synced int
}

type Disk struct {
	Files   []File
	Cap     int
	Count   int
	CrashAt int
	FailAt  int
	Down    bool
}

type DiskOp struct {
	Kind int
	Name string
	To   string
	Data string
	Size int
}

// refusal is the one error type of the disk, so that every layer tells refusals apart in the same way.
type refusal string

const (
	errDown    refusal = "the disk is down"
	errFailed  refusal = "the operation failed"
	errFull    refusal = "the disk is full"
	errMissing refusal = "the file is missing"
	errExists  refusal = "the file exists"
	errBad     refusal = "the operation is improper"
)

func (r refusal) Error() string { return string(r) }

func diskCode(err error) int {
	switch {
	case err == nil:
		return DiskOK
	case errors.Is(err, errDown):
		return DiskDown
	case errors.Is(err, errFailed):
		return DiskFailed
	case errors.Is(err, errFull):
		return DiskFull
	case errors.Is(err, errMissing):
		return DiskMissing
	case errors.Is(err, errExists):
		return DiskExists
	}
	return DiskBad
}

func (f *File) valid() bool {
	return isFileName(f.Name) && within(f.Synced, len(f.Data))
}

func (f *File) write(data string) { f.Data += data }

func (f *File) sync() { f.Synced = len(f.Data) }

func (f *File) truncate(size int) error {
	if !within(size, len(f.Data)) {
		return errBad
	}
	f.Data = f.Data[:size]
	f.sync()
	return nil
}

func (f *File) crash(keep int) {
	// The bounds come ahead of the sum: keep may be so great that the sum would wrap.
	loose := len(f.Data) - f.Synced
	f.Data = f.Data[:f.Synced+min(max(keep, 0), loose)]
	f.sync()
}

// meter stands between every operation and the files: what it refuses never reaches them.
type meter struct {
	count   int
	crashAt int
	failAt  int
	down    bool
}

func (m *meter) charge() error {
	if m.down {
		return errDown
	}
	if m.count == MaxCount {
		return errFailed
	}
	m.count++
	if m.crashAt != 0 && m.count == m.crashAt {
		m.down = true
		return errDown
	}
	if m.failAt != 0 && m.count == m.failAt {
		return errFailed
	}
	return nil
}

func (m *meter) restart() {
	m.crashAt = 0
	m.failAt = 0
	m.down = false
}

// drive is a valid disk at work. It owns its files, so that nothing is written into the disk it was mounted from.
type drive struct {
	meter
	files []File
	room  int
}

func mount(d Disk) *drive {
	return &drive{
		meter: meter{count: d.Count, crashAt: d.CrashAt, failAt: d.FailAt, down: d.Down},
		files: slices.Clone(d.Files),
		room:  d.Cap,
	}
}

// unmount gives the files away: the drive isn't used any more afterwards.
func (v *drive) unmount() Disk {
	return Disk{
		Files:   v.files,
		Cap:     v.room,
		Count:   v.count,
		CrashAt: v.crashAt,
		FailAt:  v.failAt,
		Down:    v.down,
	}
}

func (v *drive) step(op DiskOp) error {
	if err := v.charge(); err != nil {
		return err
	}
	if op.Kind == DoCreate {
		return v.create(op.Name)
	}
	i, there := findFile(v.files, op.Name)
	if !there {
		return errMissing
	}
	switch op.Kind {
	case DoAppend:
		return v.appendTo(i, op.Data)
	case DoSync:
		v.files[i].sync()
	case DoTruncate:
		return v.files[i].truncate(op.Size)
	case DoRename:
		v.rename(i, op.To)
	case DoDelete:
		v.remove(i)
	default:
		return errBad
	}
	return nil
}

func (v *drive) create(name string) error {
	i, there := findFile(v.files, name)
	if there {
		return errExists
	}
	if len(v.files) >= MaxFiles {
		return errFull
	}
	v.files = slices.Insert(v.files, i, File{Name: name})
	return nil
}

func (v *drive) appendTo(i int, data string) error {
	if len(data) > v.room-bytesOf(v.files) {
		return errFull
	}
	v.files[i].write(data)
	return nil
}

func (v *drive) rename(i int, to string) {
	f := v.files[i]
	f.Name = to
	// Taking the file out first makes a rename onto itself a case like the others.
	v.remove(i)
	j, there := findFile(v.files, to)
	if there {
		v.files[j] = f
		return
	}
	v.files = slices.Insert(v.files, j, f)
}

func (v *drive) remove(i int) { v.files = slices.Delete(v.files, i, i+1) }

// findFile also tells where a file that isn't there would keep the list sorted.
func findFile(files []File, name string) (int, bool) {
	return slices.BinarySearchFunc(files, name, func(f File, name string) int {
		return cmp.Compare(f.Name, name)
	})
}

func bytesOf(files []File) int {
	sum := 0
	for _, f := range files {
		sum += len(f.Data)
	}
	return sum
}

func within(n, most int) bool { return n >= 0 && n <= most }

func isFileName(name string) bool { return isPlain(name, MaxFile, "-.") }

// isPlain tells whether a name has 1 to most bytes, each of them a small letter, a digit or one of the marks.
func isPlain(name string, most int, marks string) bool {
	if len(name) < 1 || len(name) > most {
		return false
	}
	for i := range len(name) {
		b := name[i]
		if !(b >= 'a' && b <= 'z' || b >= '0' && b <= '9' || strings.IndexByte(marks, b) >= 0) {
			return false
		}
	}
	return true
}

func filesValid(files []File) bool {
	if len(files) > MaxFiles {
		return false
	}
	for i := range files {
		if !files[i].valid() || i > 0 && files[i-1].Name >= files[i].Name {
			return false
		}
	}
	return true
}

func opProper(op DiskOp) bool {
	if op.Kind < DoCreate || op.Kind > DoDelete || !isFileName(op.Name) {
		return false
	}
	return op.Kind != DoRename || isFileName(op.To)
}

func DiskValid(d Disk) bool {
	return filesValid(d.Files) && within(d.Cap, MaxDisk) && bytesOf(d.Files) <= d.Cap &&
		within(d.Count, MaxCount) && within(d.CrashAt, MaxCount) && within(d.FailAt, MaxCount)
}

func DiskStep(d Disk, op DiskOp) (Disk, int) {
	if !DiskValid(d) || !opProper(op) {
		return Disk{}, DiskBad
	}
	v := mount(d)
	err := v.step(op)
	return v.unmount(), diskCode(err)
}

func DiskRead(d Disk, name string) (string, bool) {
	if !DiskValid(d) || d.Down {
		return "", false
	}
	i, there := findFile(d.Files, name)
	if !there {
		return "", false
	}
	return d.Files[i].Data, true
}

func DiskCrash(d Disk, keep []int) Disk {
	if !DiskValid(d) {
		return Disk{}
	}
	v := mount(d)
	for i := range v.files {
		kept := 0
		if i < len(keep) {
			kept = keep[i]
		}
		v.files[i].crash(kept)
	}
	v.restart()
	return v.unmount()
}
