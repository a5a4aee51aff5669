package tests

import (
	"fmt"
	"math"
	"slices"
	"strings"
	"testing"

	"loop.example/s02176/impl"
)

const workLast, workNext = "wal-000005", "wal-000006"

// workNode has a checkpoint, two segments behind it, the last of 45 bytes, and a file that isn't its own.
func workNode() impl.Node {
	_, b2, b3 := threeBatches()
	states := statesOfThree()
	return impl.Node{
		Disk:  diskOf(ckptOf(1, states[1]), segmentOf(4, b2), segmentOf(5, b3), firmFile("x", "junk")),
		Log:   impl.Log{First: 4, Last: 5, Size: 45},
		State: states[3],
		Lsn:   3,
		Up:    true,
	}
}

// fits has a frame of 30 bytes, and rolls one of 62: with 100 bytes a segment that is too much for the last.
func fits() []impl.Rec { return recs(tickRec(1)) }

func rolls() []impl.Rec { return recs(seriesRec("a", keyNo("up", 2)), tickRec(1)) }

func frameFor(n impl.Node, all []impl.Rec) string {
	return impl.Frame(handBatch(batch(n.Lsn+1, all...)))
}

func opsThatFit(n impl.Node, all []impl.Rec) []impl.DiskOp {
	return []impl.DiskOp{appendTo(workLast, frameFor(n, all)), syncOf(workLast)}
}

func opsThatRoll(n impl.Node, all []impl.Rec) []impl.DiskOp {
	return []impl.DiskOp{create(workNext), appendTo(workNext, frameFor(n, all)), syncOf(workNext)}
}

// carriedOut is workNode's answer to records that it writes by these operations.
func carriedOut(t *testing.T, c impl.Config, n impl.Node, all []impl.Rec, log impl.Log, ops []impl.DiskOp) noded {
	t.Helper()
	n.Disk, n.Log, n.Lsn = afterOps(t, n.Disk, ops...), log, n.Lsn+1
	state, ok := oneByOne(c, n.State, all)
	if !ok {
		t.Fatalf("%v are refused", all)
	}
	n.State = state
	return noded{n, impl.NodeOK}
}

// failedNode is the node after a failure with this disk and log.
func failedNode(n impl.Node, d impl.Disk, log impl.Log, code int) noded {
	n.Disk, n.Log, n.Degraded, n.Up = d, log, true, !d.Down
	return noded{n, code}
}

func TestWorkNodeIsWhatItsDiskHas(t *testing.T) {
	n := workNode()
	expectNodeOpen(t, "its disk", nodeConfig(), n.Disk, noded{n, impl.NodeOK})
}

func TestNodeApplyOfEachKind(t *testing.T) {
	c, n := nodeConfig(), workNode()
	for _, all := range [][]impl.Rec{
		{tickRec(1)}, {tickRec(2)}, {tickRec(9)}, {seriesRec("a", keyNo("up", 1))}, {seriesRec("a", keyNo("up", 2))}, {seriesRec("new", keyNo("é", 2))},
		{limitRec("a", "", 0)}, {limitRec("b", "up", -1)}, {limitRec("b", "up", 1), tickRec(1)},
	} {
		log := impl.Log{First: 4, Last: 5, Size: 45 + len(frameFor(n, all))}
		for _, k := range hashings(c) {
			expectNodeApply(t, fmt.Sprint(all), k, n, all, carriedOut(t, c, n, all, log, opsThatFit(n, all)))
		}
	}
	for _, all := range [][]impl.Rec{rolls(), slices.Repeat(fits(), impl.MaxBatch)} {
		log := impl.Log{First: 4, Last: 6, Size: len(frameFor(n, all))}
		expectNodeApply(t, fmt.Sprint(len(all), " records"), c, n, all, carriedOut(t, c, n, all, log, opsThatRoll(n, all)))
	}
}

func TestNodeApplyAtTheEdgeOfASegment(t *testing.T) {
	c, n := nodeConfig(), workNode()
	// 45 bytes are there, and the frame of a limit has 31 and its metric.
	for _, x := range []struct {
		long, segment int
		fits          bool
	}{{24, 100, true}, {25, 100, false}, {25, 101, true}, {26, 101, false}, {128, 204, true}, {128, 203, false}, {128, 1000000, true}, {1, 100, true}} {
		c.Segment = x.segment
		all := recs(limitRec("a", strings.Repeat("m", x.long), 1))
		log, ops := impl.Log{First: 4, Last: 6, Size: 31 + x.long}, opsThatRoll(n, all)
		if x.fits {
			log, ops = impl.Log{First: 4, Last: 5, Size: 45 + 31 + x.long}, opsThatFit(n, all)
		}
		expectNodeApply(t, fmt.Sprintf("%+v", x), c, n, all, carriedOut(t, c, n, all, log, ops))
	}
}

func TestNodeApplyWithAWrongConfig(t *testing.T) {
	down, degraded := workNode(), workNode()
	down.Up, degraded.Degraded = false, true
	for _, c := range wrongConfigs(nodeConfig()) {
		for _, n := range []impl.Node{{}, workNode(), down, degraded} {
			for _, all := range [][]impl.Rec{nil, fits(), {tickRec(0)}} {
				expectNodeApply(t, fmt.Sprint(c), c, n, all, noded{code: impl.NodeConfig})
			}
			expectCheckpoint(t, fmt.Sprint(c), c, n, noded{code: impl.NodeConfig})
		}
	}
}

// spoilt gives workNode with something else that isn't as it should be: a refusal that comes first must be told first.
func spoilt() map[string]impl.Node {
	all := map[string]impl.Node{}
	spoil := func(what string, do func(n *impl.Node)) {
		n := workNode()
		do(&n)
		all[what] = n
	}
	spoil("as it was", func(n *impl.Node) {})
	spoil("no log", func(n *impl.Node) { n.Log = impl.Log{} })
	spoil("the log at its end", func(n *impl.Node) { n.Log = impl.Log{First: 4, Last: impl.MaxSegments, Size: 99} })
	spoil("no disk", func(n *impl.Node) { n.Disk.Cap = -1 })
	spoil("a disk that is down", func(n *impl.Node) { n.Disk.Down = true })
	spoil("a disk at its end", func(n *impl.Node) { n.Disk.Count = impl.MaxCount })
	return all
}

func TestNodesThatTakeNoChanges(t *testing.T) {
	c := nodeConfig()
	for what, n := range spoilt() {
		for _, lsn := range []int{3, -1, impl.MaxLsn} {
			n.Lsn = lsn
			for _, is := range [][2]bool{{false, false}, {true, true}, {false, true}} {
				n.Up, n.Degraded = is[0], is[1]
				for _, all := range [][]impl.Rec{nil, fits(), rolls(), {tickRec(0)}} {
					expectNodeApply(t, what, c, n, all, noded{cloneNode(n), impl.NodeRefused})
				}
				expectCheckpoint(t, what, c, n, noded{cloneNode(n), impl.NodeRefused})
			}
		}
	}
	expectNodeApply(t, "the zero node", c, impl.Node{}, fits(), noded{code: impl.NodeRefused})
	expectCheckpoint(t, "the zero node", c, impl.Node{}, noded{code: impl.NodeRefused})
}

func TestNodeApplyIsRefusedByTheState(t *testing.T) {
	c := nodeConfig()
	for what, n := range spoilt() {
		expectRefusal := func(why string, n impl.Node, all []impl.Rec) {
			t.Helper()
			expectNodeApply(t, what+", "+why, c, n, all, noded{cloneNode(n), impl.NodeState})
		}
		expectRefusal("no records", n, nil)
		expectRefusal("too many", n, slices.Repeat(fits(), impl.MaxBatch+1))
		expectRefusal("a number with a series", n, recs(impl.Rec{Kind: impl.RecSeries, Tenant: "a", Text: keyNo("up", 1), Num: 1}))
		expectRefusal("a tenant with a tick", n, recs(tickRec(1), impl.Rec{Kind: impl.RecTick, Tenant: "a", Num: 1}))
		expectRefusal("a text with a tick", n, recs(impl.Rec{Kind: impl.RecTick, Text: "a", Num: 1}, tickRec(1)))
		for _, r := range recs(tickRec(0), seriesRec("a", "up"), seriesRec("A", keyNo("up", 1)), limitRec("a", "", -2), impl.Rec{}, impl.Rec{Kind: 4}) {
			expectRefusal(fmt.Sprint(r), n, recs(r))
			expectRefusal(fmt.Sprint(r, " behind another"), n, recs(tickRec(1), r))
			expectRefusal(fmt.Sprint(r, " ahead of another"), n, recs(r, tickRec(1)))
		}
		for _, lsn := range []int{-1, impl.MaxLsn, impl.MaxLsn + 1, math.MaxInt, math.MinInt} {
			bad := n
			bad.Lsn = lsn
			expectRefusal(fmt.Sprint("lsn ", lsn), bad, fits())
		}
		for why, s := range notOKStates() {
			bad := n
			bad.State = s
			expectRefusal(why, bad, fits())
			expectRefusal(why+", no records", bad, nil)
		}
	}
}

func TestNodeApplyAtTheEdgesOfLsn(t *testing.T) {
	c, n := nodeConfig(), workNode()
	for _, n.Lsn = range []int{0, 1, impl.MaxLsn - 2, impl.MaxLsn - 1} {
		log := impl.Log{First: 4, Last: 5, Size: 75}
		expectNodeApply(t, fmt.Sprint("lsn ", n.Lsn), c, n, fits(), carriedOut(t, c, n, fits(), log, opsThatFit(n, fits())))
	}
}

// recsLong gives records whose batch has 60000 bytes with by 0, and that many more with another.
func recsLong(by int) []impl.Rec {
	all := slices.Repeat(recs(limitRec("a", strings.Repeat("\U0010ffff", impl.MaxValue), 1)), 114)
	return append(all, limitRec("a", strings.Repeat("m", 127+by), 1))
}

func TestNodeApplyOfABatchThatIsTooBig(t *testing.T) {
	c, n := nodeConfig(), workNode()
	for _, by := range []int{-1, 0} {
		all := recsLong(by)
		if size := len(handBatch(batch(4, all...))); size != 60000+by {
			t.Fatalf("%d bytes", size)
		}
		log := impl.Log{First: 4, Last: 6, Size: 60008 + by}
		expectNodeApply(t, fmt.Sprint("by ", by), c, n, all, carriedOut(t, c, n, all, log, opsThatRoll(n, all)))
	}
	for what, n := range spoilt() {
		code := impl.LogTooBig
		if n.Log == (impl.Log{}) {
			code = impl.LogGap
		}
		expectNodeApply(t, what+", a byte more", c, n, recsLong(1), noded{cloneNode(n), code})
		expectNodeApply(t, what+", all that can be", c, n, slices.Repeat(recsLong(1)[:1], impl.MaxBatch), noded{cloneNode(n), code})
	}
}

func TestNodeApplyWithoutALog(t *testing.T) {
	c := nodeConfig()
	for _, log := range noLogs() {
		for what, n := range spoilt() {
			n.Log = log
			expectNodeApply(t, fmt.Sprint(what, ", ", log), c, n, fits(), noded{cloneNode(n), impl.LogGap})
			expectNodeApply(t, fmt.Sprint(what, ", ", log), c, n, recsLong(1), noded{cloneNode(n), impl.LogGap})
		}
	}
}

func TestNodeApplyAtTheEndOfTheLog(t *testing.T) {
	c := nodeConfig()
	for what, n := range spoilt() {
		n.Log = impl.Log{First: impl.MaxSegments, Last: impl.MaxSegments, Size: 71}
		expectNodeApply(t, what+", no room", c, n, fits(), noded{cloneNode(n), impl.LogEnd})
	}
	n := workNode()
	n.Log = impl.Log{First: impl.MaxSegments, Last: impl.MaxSegments, Size: 70}
	n.Disk = diskOf(firmFile("wal-999999", bytesLong(70)))
	name := "wal-999999"
	log := n.Log
	log.Size = 100
	expectNodeApply(t, "room", c, n, fits(), carriedOut(t, c, n, fits(), log, []impl.DiskOp{appendTo(name, frameFor(n, fits())), syncOf(name)}))
}

// expectFailures arms every fault ahead of each operation in turn, and asks for what those before it left.
func expectFailures(t *testing.T, what string, n impl.Node, logs []impl.Log, ops []impl.DiskOp, do func(impl.Node) noded) {
	t.Helper()
	for at := range ops {
		for _, f := range faults() {
			bad := cloneNode(n)
			f.arm(&bad.Disk, at)
			left := afterOps(t, bad.Disk, ops[:at]...)
			f.met(&left)
			before := cloneNode(bad)
			if got, want := do(bad), failedNode(bad, left, logs[at], f.code); !got.same(want) {
				t.Errorf("%s, %s at operation %d: %v, not %v", what, f.what, at, got, want)
			}
			if !sameNode(bad, before) {
				t.Errorf("%s, %s at operation %d: the argument became %s", what, f.what, at, toldNode(bad))
			}
		}
	}
	for _, f := range faults() {
		armed := cloneNode(n)
		f.arm(&armed.Disk, len(ops))
		if got := do(armed); got.code != impl.NodeOK || got.node.Log != logs[len(ops)] || !sameDisk(got.node.Disk, afterOps(t, armed.Disk, ops...)) {
			t.Errorf("%s, %s behind them all: %v", what, f.what, got)
		}
	}
}

func TestNodeApplyFailsAtEachOperation(t *testing.T) {
	c, n := nodeConfig(), workNode()
	log, begun := n.Log, impl.Log{First: 4, Last: 6}
	expectFailures(t, "one that fits", n, []impl.Log{log, log, {First: 4, Last: 5, Size: 75}}, opsThatFit(n, fits()),
		func(n impl.Node) noded { return nodeApplyOf(c, n, fits()) })
	expectFailures(t, "one that rolls", n, []impl.Log{log, begun, begun, {First: 4, Last: 6, Size: 62}}, opsThatRoll(n, rolls()),
		func(n impl.Node) noded { return nodeApplyOf(c, n, rolls()) })
}

func TestNodeApplyOnADiskThatRefuses(t *testing.T) {
	c := nodeConfig()
	begun := impl.Log{First: 4, Last: 6}
	expectFailed := func(what string, n impl.Node, all []impl.Rec, log impl.Log, code int, ops ...impl.DiskOp) {
		t.Helper()
		left := afterOps(t, n.Disk, ops...)
		left.Count++
		expectNodeApply(t, what, c, n, all, failedNode(n, left, log, code))
	}
	n := workNode()
	used := 0
	for _, f := range n.Disk.Files {
		used += len(f.Data)
	}
	n.Disk.Cap = used + 29
	expectFailed("a byte too few", n, fits(), n.Log, impl.DiskFull)
	n.Disk.Cap = used + 61
	expectFailed("a byte too few in a new segment", n, rolls(), begun, impl.DiskFull, create(workNext))
	n = workNode()
	n.Disk.Files = append(numberedFiles(impl.MaxFiles-1), n.Disk.Files[2])
	expectFailed("no room for a segment", n, rolls(), n.Log, impl.DiskFull)
	n = workNode()
	n.Disk = afterOps(t, n.Disk, create(workNext))
	expectFailed("the next segment is there", n, rolls(), n.Log, impl.DiskExists)
	n = workNode()
	n.Disk = afterOps(t, n.Disk, remove(workLast))
	expectFailed("the last segment is missing", n, fits(), n.Log, impl.DiskMissing)
}

func TestChangesOnNoDiskOrOneThatIsDown(t *testing.T) {
	c, n := nodeConfig(), workNode()
	n.Disk.Down = true
	for _, n.Disk.Count = range []int{20, impl.MaxCount} {
		for _, all := range [][]impl.Rec{fits(), rolls()} {
			expectNodeApply(t, "down", c, n, all, failedNode(n, n.Disk, n.Log, impl.DiskDown))
		}
		expectCheckpoint(t, "down", c, n, failedNode(n, n.Disk, n.Log, impl.DiskDown))
		left := n
		left.Disk.Files = append(slices.Clone(n.Disk.Files[:1]), append([]impl.File{{Name: "ckpt.tmp"}}, n.Disk.Files[1:]...)...)
		expectCheckpoint(t, "down, and one that is unfinished", c, left, failedNode(left, left.Disk, n.Log, impl.DiskDown))
	}
	for what, d := range invalidDisks() {
		for _, d.Down = range []bool{false, true} {
			n.Disk = d
			for _, all := range [][]impl.Rec{fits(), rolls()} {
				expectNodeApply(t, what, c, n, all, failedNode(n, impl.Disk{}, n.Log, impl.DiskBad))
			}
			expectCheckpoint(t, what, c, n, failedNode(n, impl.Disk{}, n.Log, impl.DiskBad))
		}
	}
}
