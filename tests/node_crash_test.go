package tests

import (
	"fmt"
	"slices"
	"testing"

	"loop.example/s02176/impl"
)

// keeps gives what a crash may keep of each file: nothing, all, and every number of bytes in between.
func keeps(d impl.Disk) [][]int {
	loosest := 0
	for _, f := range d.Files {
		loosest = max(loosest, len(f.Data)-f.Synced)
	}
	var all [][]int
	for n := range loosest + 1 {
		all = append(all, slices.Repeat([]int{n}, len(d.Files)))
	}
	return append(all, nil, slices.Repeat([]int{1 << 40}, len(d.Files)))
}

// arms lets the disk crash or fail at the n-th operation from now on.
func arms(n int) []func(*impl.Disk) {
	return []func(*impl.Disk){
		func(d *impl.Disk) { d.CrashAt = d.Count + n },
		func(d *impl.Disk) { d.FailAt = d.Count + n },
	}
}

// sameHistory tells whether two nodes have the same batches behind them.
func sameHistory(a, b impl.Node) bool { return sameState(a.State, b.State) && a.Lsn == b.Lsn }

// trial is a node and a change that is made to it.
type trial struct {
	what string
	node impl.Node
	do   func(impl.Config, impl.Node) noded
}

func applying(all ...impl.Rec) func(impl.Config, impl.Node) noded {
	return func(c impl.Config, n impl.Node) noded { return nodeApplyOf(c, n, all) }
}

func trials(t *testing.T) []trial {
	c := nodeConfig()
	empty := mustOpen(t, c, impl.Disk{Cap: 100000})
	begun := mustApply(t, c, empty, rolls()...)
	fresh := mustCheckpoint(t, c, begun)
	long := fresh
	for range 5 {
		long = mustApply(t, c, mustApply(t, c, long, rolls()...), fits()...)
	}
	all := []trial{{"with one that was never finished", leftNode(t, "left"), checkpointOf}}
	for what, n := range map[string]impl.Node{"empty": empty, "begun": begun, "fresh": fresh, "long": long, "work": workNode(), "without a checkpoint": withoutCkpt()} {
		all = append(all,
			trial{what + ", fits", n, applying(fits()...)},
			trial{what + ", rolls", n, applying(rolls()...)},
			trial{what + ", a limit", n, applying(limitRec("z", "", 0))},
			trial{what + ", a series goes", n, applying(tickRec(9))},
			trial{what + ", a checkpoint", n, checkpointOf},
		)
	}
	return all
}

// Promise 9: what was answered NodeOK is there after any crash.
func TestWhatWasAnsweredSurvivesACrash(t *testing.T) {
	c := nodeConfig()
	for _, x := range trials(t) {
		after := x.do(c, x.node)
		if after.code != impl.NodeOK {
			t.Fatalf("%s: %v", x.what, after)
		}
		for _, keep := range keeps(after.node.Disk) {
			again := nodeOpenOf(c, impl.DiskCrash(after.node.Disk, keep))
			if again.code != impl.NodeOK || !sameHistory(again.node, after.node) || again.node.Log != after.node.Log {
				t.Errorf("%s, %v kept: %v, not %v", x.what, keep, again, after)
			}
		}
	}
}

// expectEitherWay opens a disk that was crashed, and asks for one of the two states, whatever happens while it opens.
func expectEitherWay(t *testing.T, what string, d impl.Disk, before, after impl.Node) impl.Node {
	t.Helper()
	c := nodeConfig()
	got := nodeOpenOf(c, d)
	if got.code != impl.NodeOK || !sameHistory(got.node, before) && !sameHistory(got.node, after) {
		t.Fatalf("%s: %v, neither %s nor %s", what, got, toldNode(before), toldNode(after))
	}
	for n := 1; d.Count+n <= got.node.Disk.Count; n++ {
		for i, arm := range arms(n) {
			armed := cloneDisk(d)
			arm(&armed)
			down := nodeOpenOf(c, armed)
			if down.code != []int{impl.DiskDown, impl.DiskFailed}[i] || !sameNode(down.node, impl.Node{Disk: down.node.Disk}) || down.node.Disk.Count != d.Count+n {
				t.Fatalf("%s, at operation %d of the opening: %v", what, n, down)
			}
			for _, keep := range keeps(down.node.Disk) {
				again := nodeOpenOf(c, impl.DiskCrash(down.node.Disk, keep))
				if again.code != impl.NodeOK || !sameHistory(again.node, got.node) || again.node.Log != got.node.Log {
					t.Fatalf("%s, opened after operation %d of an opening: %v, not %v", what, n, again, got)
				}
			}
		}
	}
	return got.node
}

// expectGoesOn asks that a node which was opened takes changes, and keeps them.
func expectGoesOn(t *testing.T, what string, n impl.Node) {
	t.Helper()
	c := nodeConfig()
	after := mustApply(t, c, mustCheckpoint(t, c, mustApply(t, c, n, rolls()...)), fits()...)
	again := nodeOpenOf(c, impl.DiskCrash(after.Disk, nil))
	if again.code != impl.NodeOK || !sameHistory(again.node, after) || again.node.Lsn != n.Lsn+2 {
		t.Fatalf("%s, gone on: %v, not %s", what, again, toldNode(after))
	}
}

// Promise 10: after a crash or a failure at any operation the state is the one before or the one after.
func TestACrashAtEveryOperation(t *testing.T) {
	c := nodeConfig()
	befores, afters := 0, 0
	for _, x := range trials(t) {
		whole := x.do(c, x.node)
		for n := 1; n <= whole.node.Disk.Count-x.node.Disk.Count; n++ {
			for i, arm := range arms(n) {
				armed := cloneNode(x.node)
				arm(&armed.Disk)
				failed := x.do(c, armed)
				what := fmt.Sprintf("%s, %d at operation %d", x.what, i, n)
				if failed.code != []int{impl.DiskDown, impl.DiskFailed}[i] || failed.node.Up != (i == 1) || !failed.node.Degraded || !sameHistory(failed.node, x.node) {
					t.Fatalf("%s: %v", what, failed)
				}
				for _, keep := range keeps(failed.node.Disk) {
					got := expectEitherWay(t, fmt.Sprintf("%s, %.20v kept", what, keep), impl.DiskCrash(failed.node.Disk, keep), x.node, whole.node)
					if sameHistory(got, x.node) {
						befores++
					} else {
						afters++
					}
				}
				expectGoesOn(t, what, nodeOpenOf(c, impl.DiskCrash(failed.node.Disk, nil)).node)
			}
		}
	}
	if befores == 0 || afters == 0 {
		t.Errorf("%d as before and %d as after: the test is too tame", befores, afters)
	}
}

// Of a batch that is under way only the whole frame counts.
func TestWhatIsKeptOfABatchDecides(t *testing.T) {
	c, n := nodeConfig(), workNode()
	for _, all := range [][]impl.Rec{fits(), rolls()} {
		whole := nodeApplyOf(c, n, all)
		armed := cloneNode(n)
		armed.Disk.CrashAt = whole.node.Disk.Count
		failed := nodeApplyOf(c, armed, all)
		size := len(frameFor(n, all))
		for kept := range size + 2 {
			keep := slices.Repeat([]int{kept}, len(failed.node.Disk.Files))
			got := nodeOpenOf(c, impl.DiskCrash(failed.node.Disk, keep))
			want := n
			if kept >= size {
				want = whole.node
			}
			if got.code != impl.NodeOK || !sameHistory(got.node, want) {
				t.Errorf("%d of %d bytes kept: %v, not %s", kept, size, got, toldNode(want))
			}
		}
	}
}

// A disk that only failed isn't down: it may be opened as it is, and has all that was appended.
func TestOpeningBehindAFailure(t *testing.T) {
	c := nodeConfig()
	for _, x := range trials(t) {
		whole := x.do(c, x.node)
		for n := 1; n <= whole.node.Disk.Count-x.node.Disk.Count; n++ {
			armed := cloneNode(x.node)
			armed.Disk.FailAt = armed.Disk.Count + n
			failed := x.do(c, armed)
			got := nodeOpenOf(c, failed.node.Disk)
			all := slices.Repeat([]int{1 << 40}, len(failed.node.Disk.Files))
			if crashed := nodeOpenOf(c, impl.DiskCrash(failed.node.Disk, all)); got.code != impl.NodeOK || !sameHistory(got.node, crashed.node) {
				t.Errorf("%s, operation %d: %v, not %v", x.what, n, got, crashed)
			}
			expectGoesOn(t, x.what, got.node)
			for _, keep := range keeps(got.node.Disk) {
				if again := nodeOpenOf(c, impl.DiskCrash(got.node.Disk, keep)); again.code != impl.NodeOK || !sameHistory(again.node, got.node) {
					t.Errorf("%s, operation %d, crashed when it was open: %v, not %v", x.what, n, again, got)
				}
			}
		}
	}
}

// openings are disks as crashes leave them.
func openings() map[string]impl.Disk {
	b1, b2, b3 := threeBatches()
	states := statesOfThree()
	torn, loose := segmentOf(5, b3), segmentOf(5, b3)
	torn.Data = torn.Data[:30]
	torn.Synced = 10
	loose.Synced = 0
	left := impl.File{Name: "ckpt.tmp", Data: "left", Synced: 2}
	return map[string]impl.Disk{
		"nothing":                       {Cap: 100000},
		"one left":                      diskOf(left),
		"torn":                          diskOf(segmentOf(4, b1, b2), torn),
		"torn, one left":                diskOf(left, segmentOf(4, b1, b2), torn),
		"loose":                         diskOf(segmentOf(4, b1, b2), loose),
		"loose, one left":               diskOf(left, ckptOf(1, states[1]), segmentOf(4, b1, b2), loose),
		"a checkpoint, old segments":    diskOf(ckptOf(2, states[2]), segmentOf(4, b1, b2), segmentOf(5)),
		"one of two old segments":       diskOf(left, ckptOf(2, states[2]), segmentOf(4, b2), segmentOf(5)),
		"a checkpoint, torn, one left":  diskOf(left, ckptOf(2, states[2]), segmentOf(4, b2), torn),
		"a checkpoint, loose, one left": diskOf(left, ckptOf(2, states[2]), segmentOf(4, b2), loose),
	}
}

// What is loose may be lost with a crash, but then the whole batch is.
func TestACrashAtEveryOperationOfAnOpening(t *testing.T) {
	c, met := nodeConfig(), 0
	for what, d := range openings() {
		whole := nodeOpenOf(c, d)
		if whole.code != impl.NodeOK {
			t.Fatalf("%s: %v", what, whole)
		}
		lost := nodeOpenOf(c, impl.DiskCrash(d, nil))
		for n := 1; n <= whole.node.Disk.Count-d.Count; n++ {
			met++
			for i, arm := range arms(n) {
				armed := cloneDisk(d)
				arm(&armed)
				down := nodeOpenOf(c, armed)
				if down.code != []int{impl.DiskDown, impl.DiskFailed}[i] || !sameNode(down.node, impl.Node{Disk: down.node.Disk}) {
					t.Fatalf("%s, operation %d: %v", what, n, down)
				}
				for _, keep := range keeps(down.node.Disk) {
					got := expectEitherWay(t, fmt.Sprintf("%s, operation %d", what, n), impl.DiskCrash(down.node.Disk, keep), lost.node, whole.node)
					expectGoesOn(t, what, got)
				}
			}
		}
		for _, keep := range keeps(whole.node.Disk) {
			if again := nodeOpenOf(c, impl.DiskCrash(whole.node.Disk, keep)); again.code != impl.NodeOK || !sameHistory(again.node, whole.node) {
				t.Errorf("%s, crashed when it was open: %v, not %v", what, again, whole)
			}
		}
	}
	if met < 10 {
		t.Errorf("%d operations: the test is too tame", met)
	}
}
