package tests

import (
	"fmt"
	"slices"
	"testing"

	"loop.example/s02176/impl"
)

// roomyNode has spare room behind each of its lists.
func roomyNode(n impl.Node) impl.Node {
	n.Disk = roomy(n.Disk)
	n.State = roomyState(n.State)
	return n
}

func expectNodeUntouched(t *testing.T, what string, n, want impl.Node) {
	t.Helper()
	if !sameNode(n, want) {
		t.Errorf("%s: the argument became %s, was %s", what, toldNode(n), toldNode(want))
	}
	if !clean(n.Disk.Files) {
		t.Errorf("%s: the spare room behind the files is written to", what)
	}
	expectStateUntouched(t, what, n.State, want.State)
}

func scribbleNode(n impl.Node) {
	scribble(n.Disk.Files, impl.File{Name: "scribble", Data: "scribble", Synced: 1})
	scribbleState(n.State)
}

// expectNodeApart asks that an answer shares no memory with the node that was handed in, nor one of its lists with another.
func expectNodeApart(t *testing.T, what string, n impl.Node, do func(impl.Node) noded) {
	t.Helper()
	given := cloneNode(n)
	n = roomyNode(n)
	first := do(n)
	expectNodeUntouched(t, what, n, given)
	kept := noded{cloneNode(first.node), first.code}
	scribbleNode(first.node)
	expectNodeUntouched(t, what+", a scribble into the answer", n, given)
	again := do(n)
	if !again.same(kept) {
		t.Errorf("%s: %v, was %v", what, again, kept)
	}
	scribbleNode(n)
	if !again.same(kept) {
		t.Errorf("%s: the answer became %v, was %v", what, again, kept)
	}
	scribbleApart(t, what, again.node.State)
	if !sameDisk(again.node.Disk, kept.node.Disk) {
		t.Errorf("%s: the files share memory with the state", what)
	}
}

// answeredNodes are answered in every way, by NodeApply or by NodeCheckpoint, that isn't a failure at an operation.
func answeredNodes() map[string]impl.Node {
	all := spoilt()
	for what, n := range spoilt() {
		n.Degraded = true
		all[what+", degraded"] = n
		n.Up = false
		all[what+", not up"] = n
	}
	n := workNode()
	n.Lsn = impl.MaxLsn + 1
	all["an lsn too great"] = n
	return all
}

func TestChangesOfANodeShareNoMemory(t *testing.T) {
	c := nodeConfig()
	for what, n := range answeredNodes() {
		for i, all := range [][]impl.Rec{nil, fits(), rolls(), recsLong(1), {tickRec(1), tickRec(0)}, {limitRec("b", "cpu", 1)}, {tickRec(9)}} {
			expectNodeApart(t, fmt.Sprint(what, ", records ", i), n, func(n impl.Node) noded { return nodeApplyOf(c, n, all) })
		}
		expectNodeApart(t, what+", a checkpoint", n, func(n impl.Node) noded { return checkpointOf(c, n) })
		expectNodeApart(t, what+", no config", n, func(n impl.Node) noded { return checkpointOf(impl.Config{}, n) })
		expectNodeApart(t, what+", no config", n, func(n impl.Node) noded { return nodeApplyOf(impl.Config{}, n, fits()) })
	}
}

func TestFailuresOfANodeShareNoMemory(t *testing.T) {
	c := nodeConfig()
	for at := range 9 {
		for _, f := range faults() {
			n := leftNode(t, "left")
			f.arm(&n.Disk, at)
			what := fmt.Sprintf("%s at operation %d", f.what, at)
			expectNodeApart(t, what, n, func(n impl.Node) noded { return checkpointOf(c, n) })
			expectNodeApart(t, what, n, func(n impl.Node) noded { return nodeApplyOf(c, n, fits()) })
			expectNodeApart(t, what, n, func(n impl.Node) noded { return nodeApplyOf(c, n, rolls()) })
		}
	}
}

func TestNodeOpenSharesNoMemory(t *testing.T) {
	c := nodeConfig()
	disks := openings()
	disks["a checkpoint that can't be read"] = diskOf(firmFile("ckpt", "?"))
	disks["a log that doesn't go on"] = diskOf(segmentOf(1, batch(2, tickRec(1))))
	disks["a gap"] = diskOf(segmentOf(1), segmentOf(3))
	for what, d := range disks {
		for _, down := range []bool{false, true} {
			d.Down = down
			expectNodeApart(t, what, impl.Node{Disk: d}, func(n impl.Node) noded { return nodeOpenOf(c, n.Disk) })
		}
		d.Down = false
		for at := range 3 {
			for _, f := range faults() {
				bad := cloneDisk(d)
				f.arm(&bad, at)
				expectNodeApart(t, fmt.Sprint(what, ", ", f.what), impl.Node{Disk: bad}, func(n impl.Node) noded { return nodeOpenOf(c, n.Disk) })
			}
		}
	}
}

func TestApplyRecsSharesNoMemory(t *testing.T) {
	c := plainConfig()
	for i, all := range [][]impl.Rec{
		nil, {tickRec(1)}, {tickRec(5)}, {tickRec(100)}, {tickRec(0)}, {seriesRec("acme", keyNo("up", 1))}, {seriesRec("aa", keyNo("up", 1)), limitRec("acme", "up", 9)},
		{limitRec("beta", "cpu", -1)}, {seriesRec("new", keyNo("up", 1)), impl.Rec{}}, slices.Repeat(fits(), impl.MaxBatch+1),
	} {
		what := fmt.Sprint("records ", i)
		expectNodeApart(t, what, impl.Node{State: three()}, func(n impl.Node) noded {
			s, ok := impl.ApplyRecs(c, n.State, all)
			return noded{impl.Node{State: s}, codeFor(ok)}
		})
		expectNodeApart(t, what+", a state that isn't OK", impl.Node{State: stateAt(-1, three().Tenants...)}, func(n impl.Node) noded {
			s, ok := impl.ApplyRecs(c, n.State, all)
			return noded{impl.Node{State: s}, codeFor(ok)}
		})
	}
}

// The records that are handed in are as they were, and so is the room behind them.
func TestRecordsAreNotWrittenTo(t *testing.T) {
	c, n := nodeConfig(), workNode()
	for i, want := range [][]impl.Rec{nil, fits(), rolls(), recsLong(0), {tickRec(1), tickRec(0), tickRec(1)}, {impl.Rec{Kind: 9}}} {
		all := withRoom(want)
		impl.EncodeBatch(impl.Batch{Lsn: 4, Recs: all})
		impl.ApplyRecs(c, n.State, all)
		after, _ := impl.NodeApply(c, n, all)
		kept := cloneNode(after)
		if !slices.Equal(all, want) || !clean(all) {
			t.Errorf("records %d became %v, were %v", i, all[:cap(all)], want)
		}
		scribble(all, tickRec(77))
		if !sameNode(after, kept) {
			t.Errorf("records %d: the node became %s, was %s", i, toldNode(after), toldNode(kept))
		}
	}
}

func TestEncodeStateWritesIntoNothing(t *testing.T) {
	for _, want := range []impl.State{{}, three(), longTexts(256)[0], longTexts(65536)[1], longTexts(65536)[2]} {
		s := roomyState(want)
		impl.EncodeState(1, s)
		impl.EncodeState(-1, s)
		expectStateUntouched(t, "encoding", s, want)
	}
}
