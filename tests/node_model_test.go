package tests

import (
	"fmt"
	"slices"
	"testing"

	"loop.example/s02176/impl"
)

func hasFile(d impl.Disk, name string) bool {
	return slices.ContainsFunc(d.Files, func(f impl.File) bool { return f.Name == name })
}

// modelNodeOpen is NodeOpen once more, written on DiskStep, for a valid disk and a config that is OK.
func modelNodeOpen(c impl.Config, d impl.Disk) noded {
	if d.Down {
		return noded{impl.Node{Disk: d}, impl.DiskDown}
	}
	s := script{disk: d}
	if hasFile(d, "ckpt.tmp") && !s.do(remove("ckpt.tmp")) {
		return noded{impl.Node{Disk: s.disk}, s.code}
	}
	n := impl.Node{Up: true}
	if text, there := impl.DiskRead(s.disk, "ckpt"); there {
		lsn, state, ok := modelCkpt(c, text)
		if !ok {
			return noded{impl.Node{Disk: s.disk}, impl.NodeState}
		}
		n.Lsn, n.State = lsn, state
	}
	log := modelOpen(s.disk)
	n.Disk, n.Log = log.disk, log.log
	if log.code != impl.LogOK {
		return noded{impl.Node{Disk: n.Disk}, log.code}
	}
	for _, payload := range log.payloads {
		b, ok := modelBatch(payload)
		if ok && b.Lsn <= n.Lsn {
			continue
		}
		state, done := oneByOne(c, n.State, b.Recs)
		if !ok || b.Lsn != n.Lsn+1 || !done {
			return noded{impl.Node{Disk: n.Disk}, impl.NodeReplay}
		}
		n.State, n.Lsn = state, b.Lsn
	}
	return noded{n, impl.NodeOK}
}

// modelNodeApply is NodeApply once more, for a node that is Up.
func modelNodeApply(c impl.Config, n impl.Node, all []impl.Rec) noded {
	if n.Degraded {
		return noded{n, impl.NodeRefused}
	}
	state, ok := oneByOne(c, n.State, all)
	payload := handBatch(batch(n.Lsn+1, all...))
	if _, written := modelBatch(payload); !ok || !written {
		return noded{n, impl.NodeState}
	}
	if len(payload) > 60000 {
		return noded{n, impl.LogTooBig}
	}
	log := modelAppend(n.Disk, n.Log, payload, c.Segment)
	switch log.code {
	case impl.LogEnd:
		return noded{n, impl.LogEnd}
	case impl.LogOK:
		return noded{impl.Node{Disk: log.disk, Log: log.log, State: state, Lsn: n.Lsn + 1, Up: true}, impl.NodeOK}
	}
	return failedNode(n, log.disk, log.log, log.code)
}

// modelCheckpoint is NodeCheckpoint once more, for a node that is Up and has a log.
func modelCheckpoint(n impl.Node) noded {
	if n.Degraded {
		return noded{n, impl.NodeRefused}
	}
	if n.Log.Last == impl.MaxSegments {
		return noded{n, impl.LogEnd}
	}
	s := script{disk: n.Disk}
	if hasFile(n.Disk, "ckpt.tmp") {
		s.do(remove("ckpt.tmp"))
	}
	s.do(create("ckpt.tmp"))
	s.do(appendTo("ckpt.tmp", handState(n.Lsn, n.State)))
	s.do(syncOf("ckpt.tmp"))
	s.do(rename("ckpt.tmp", "ckpt"))
	s.do(create(fmt.Sprintf("wal-%06d", n.Log.Last+1)))
	for at := n.Log.First; at <= n.Log.Last; at++ {
		s.do(remove(fmt.Sprintf("wal-%06d", at)))
	}
	if s.code != impl.DiskOK {
		return failedNode(n, s.disk, n.Log, s.code)
	}
	n.Disk, n.Log = s.disk, impl.Log{First: n.Log.Last + 1, Last: n.Log.Last + 1}
	return noded{n, impl.NodeOK}
}

func (r *dice) batchRecs(window int) []impl.Rec {
	var all []impl.Rec
	for range 1 + r.below(4) {
		all = append(all, r.likelyRec(window))
	}
	return all
}

// armed lets the disk crash or fail soon, now and then.
func (r *dice) armed(d impl.Disk, every int) impl.Disk {
	if r.below(every) == 0 {
		d.CrashAt = d.Count + 1 + r.below(6)
	}
	if r.below(every) == 0 {
		d.FailAt = d.Count + 1 + r.below(6)
	}
	return d
}

func (r *dice) crashed(d impl.Disk) impl.Disk {
	keep := make([]int, len(d.Files))
	for i := range keep {
		keep[i] = r.below(60)
	}
	return impl.DiskCrash(d, keep[:r.below(len(keep)+1)])
}

func (r *dice) nodeConfig() impl.Config {
	return impl.Config{Window: 1 + r.below(9), TenantLimit: 2 + r.below(8), MetricLimit: 2 + r.below(4), Shards: 1 + r.below(5), Hash: r.below(3), Segment: 100 + r.below(200)}
}

// damaged is a disk on which not only a node wrote.
func (r *dice) damaged(d impl.Disk) impl.Disk {
	d = cloneDisk(d)
	if len(d.Files) == 0 {
		return d
	}
	f := &d.Files[r.below(len(d.Files))]
	switch r.below(7) {
	case 0:
		f.Data = f.Data[:r.below(len(f.Data)+1)]
	case 1:
		f.Data += r.bytes(12)
	case 2:
		f.Data += impl.Frame(handBatch(batch(1+r.below(9), r.likelyRec(4))))
	case 3:
		f.Data += impl.Frame("no batch")
	case 4:
		if f.Data != "" {
			f.Data = r.worn(f.Data)
		}
	case 5:
		d, _ = impl.DiskStep(d, remove(f.Name))
		return d
	case 6:
		d, _ = impl.DiskStep(d, create("ckpt.tmp"))
		return d
	}
	f.Synced = r.below(len(f.Data) + 1)
	d.Cap = impl.MaxDisk
	return d
}

// expectStepOfANode makes one change, asks for what the model says, and gives the answer.
func expectStepOfANode(t *testing.T, what string, r *dice, c impl.Config, n impl.Node) noded {
	t.Helper()
	if r.below(5) == 0 {
		want := modelCheckpoint(n)
		expectCheckpoint(t, what, c, n, want)
		return want
	}
	all := r.batchRecs(c.Window)
	want := modelNodeApply(c, n, all)
	expectNodeApply(t, what, c, n, all, want)
	return want
}

func TestNodesAgainstAModel(t *testing.T) {
	seen := map[int]int{}
	for seed := range 600 {
		r := dice(seed)
		c, d := r.nodeConfig(), impl.Disk{Cap: 300 + r.below(4000)}
		for range 6 {
			d = r.armed(d, 6)
			n := modelNodeOpen(c, d)
			seen[n.code]++
			expectNodeOpen(t, fmt.Sprint("seed ", seed), c, d, n)
			for range 10 {
				if !n.node.Up {
					break
				}
				n.node.Disk = r.armed(n.node.Disk, 12)
				n = expectStepOfANode(t, fmt.Sprint("seed ", seed), &r, c, n.node)
				seen[n.code]++
			}
			d = r.crashed(n.node.Disk)
			if r.below(3) == 0 {
				d = r.damaged(d)
			}
			if t.Failed() {
				t.FailNow()
			}
		}
	}
	expectSeen(t, seen, impl.NodeOK, impl.NodeRefused, impl.NodeState, impl.NodeReplay, impl.DiskDown, impl.DiskFailed, impl.DiskFull, impl.LogGap, impl.LogCorrupt)
}

// life is a node among crashes: what it was when it last answered, and what it may be by a change under way.
type life struct {
	*dice
	config impl.Config
	node   impl.Node
	mayBe  impl.Node
	opens  int
}

// reopen crashes the disk, and goes on crashing while it is opened, until an opening gets through.
func (l *life) reopen(t *testing.T, what string, d impl.Disk) {
	t.Helper()
	for {
		got := nodeOpenOf(l.config, l.armed(l.crashed(d), 3))
		l.opens++
		if got.code == impl.NodeOK {
			if !sameHistory(got.node, l.node) && !sameHistory(got.node, l.mayBe) {
				t.Fatalf("%s: %v, neither %s nor %s", what, got, toldNode(l.node), toldNode(l.mayBe))
			}
			l.node, l.mayBe = got.node, got.node
			return
		}
		if got.code != impl.DiskDown && got.code != impl.DiskFailed {
			t.Fatalf("%s: %v", what, got)
		}
		d = got.node.Disk
	}
}

// change makes one change; mayBe is then what it would have come to.
func (l *life) change() noded {
	if l.below(6) == 0 {
		return checkpointOf(l.config, l.node)
	}
	all := l.batchRecs(l.config.Window)
	if state, ok := oneByOne(l.config, l.node.State, all); ok {
		l.mayBe.State, l.mayBe.Lsn = state, l.node.Lsn+1
	}
	return nodeApplyOf(l.config, l.node, all)
}

// Promises 9 and 10 over whole lives: nothing that was answered is ever lost, and nothing else comes.
func TestNodesLiveThroughCrashes(t *testing.T) {
	opens, failures, checkpoints := 0, 0, 0
	for seed := range 400 {
		r := dice(seed)
		l := life{dice: &r, config: r.nodeConfig()}
		l.reopen(t, fmt.Sprint("seed ", seed), impl.Disk{Cap: 200 + r.below(3000)})
		for range 60 {
			l.node.Disk = r.armed(l.node.Disk, 15)
			got := l.change()
			switch {
			case got.code == impl.NodeOK:
				l.node, l.mayBe = got.node, got.node
			case got.node.Degraded:
				failures++
				if hasFile(got.node.Disk, "ckpt.tmp") {
					checkpoints++
				}
				l.reopen(t, fmt.Sprint("seed ", seed), got.node.Disk)
			default:
				l.mayBe = l.node
			}
			if r.below(20) == 0 {
				l.mayBe = l.node
				l.reopen(t, fmt.Sprint("seed ", seed), l.node.Disk)
			}
		}
		opens += l.opens
	}
	if opens < 2000 || failures < 1000 || checkpoints < 50 {
		t.Errorf("%d openings, %d failures, %d of them in a checkpoint: the test is too tame", opens, failures, checkpoints)
	}
}
