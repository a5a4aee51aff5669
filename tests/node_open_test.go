package tests

import (
	"cmp"
	"fmt"
	"slices"
	"testing"

	"loop.example/s02176/impl"
)

// diskOf has these files, in order, with all of their bytes as they are given.
func diskOf(files ...impl.File) impl.Disk {
	slices.SortFunc(files, func(a, b impl.File) int { return cmp.Compare(a.Name, b.Name) })
	return impl.Disk{Files: files, Cap: 100000, Count: 20}
}

// segmentOf is the segment number n with these batches.
func segmentOf(n int, batches ...impl.Batch) impl.File {
	data := ""
	for _, b := range batches {
		data += impl.Frame(handBatch(b))
	}
	return firmFile(fmt.Sprintf("wal-%06d", n), data)
}

func ckptOf(lsn int, s impl.State) impl.File { return firmFile("ckpt", handState(lsn, s)) }

// threeBatches follow on each other from a state with nothing in it.
func threeBatches() (impl.Batch, impl.Batch, impl.Batch) {
	return batch(1, seriesRec("a", keyNo("up", 1)), tickRec(2)), batch(2, seriesRec("b", keyNo("up", 2))), batch(3, tickRec(1), limitRec("b", "up", 7))
}

// statesOfThree are the states after none of threeBatches, after the first, and so on.
func statesOfThree() []impl.State {
	a, b := owner("a", seenAt(0, keyNo("up", 1))), owner("b", seenAt(2, keyNo("up", 2)))
	return []impl.State{{}, stateAt(2, a), stateAt(2, a, b), stateAt(3, a, filled(held("b", -1, most("up", 7)), b.Series...))}
}

// sizeOf is the size of the last of a log's segments.
func sizeOf(f impl.File) int { return len(f.Data) }

func openedNode(d impl.Disk, log impl.Log, s impl.State, lsn int) noded {
	return noded{impl.Node{Disk: d, Log: log, State: s, Lsn: lsn, Up: true}, impl.NodeOK}
}

func TestNodeOpenOfAnEmptyDisk(t *testing.T) {
	for _, d := range []impl.Disk{{}, {Cap: 1000, Count: 7, CrashAt: 7, FailAt: 9}, threeFiles(), diskOf(impl.File{Name: "ckpt-tmp"}, impl.File{Name: "wal-1"})} {
		want := openedNode(afterOps(t, d, create("wal-000001")), impl.Log{First: 1, Last: 1}, impl.State{}, 0)
		for _, c := range hashings(nodeConfig()) {
			expectNodeOpen(t, fmt.Sprint(d), c, d, want)
		}
	}
}

func TestNodeOpenWithAWrongConfig(t *testing.T) {
	down := impl.Disk{Down: true}
	for _, c := range wrongConfigs(nodeConfig()) {
		for _, d := range []impl.Disk{{}, down, {Cap: -1}, logDisk(), diskOf(impl.File{Name: "ckpt.tmp"}), diskOf(ckptOf(3, three()))} {
			expectNodeOpen(t, fmt.Sprint(c), c, d, noded{code: impl.NodeConfig})
		}
	}
}

func TestNodeOpenOfNoDisk(t *testing.T) {
	for what, d := range invalidDisks() {
		expectNodeOpen(t, what, nodeConfig(), d, noded{code: impl.DiskBad})
		d.Down = true
		expectNodeOpen(t, what+", down", nodeConfig(), d, noded{code: impl.DiskBad})
	}
}

func TestNodeOpenOfADiskThatIsDown(t *testing.T) {
	for _, d := range []impl.Disk{{}, logDisk(), diskOf(impl.File{Name: "ckpt.tmp"}), diskOf(firmFile("ckpt", "?"), impl.File{Name: "wal-000001", Data: "torn"})} {
		d.Down = true
		expectNoNode(t, fmt.Sprint(d), nodeConfig(), d, d, impl.DiskDown)
		d.Count = impl.MaxCount
		expectNoNode(t, fmt.Sprint(d), nodeConfig(), d, d, impl.DiskDown)
	}
}

func TestNodeOpenDropsWhatIsUnfinished(t *testing.T) {
	b1, b2, _ := threeBatches()
	states := statesOfThree()
	log := segmentOf(4, b1, b2)
	for _, data := range []string{"", "junk", handState(7, three()), handState(2, impl.State{})[:11]} {
		for _, synced := range []int{0, len(data)} {
			d := diskOf(impl.File{Name: "ckpt.tmp", Data: data, Synced: synced}, log)
			expectNodeOpen(t, fmt.Sprintf("%.20q", data), nodeConfig(), d, openedNode(afterOps(t, d, remove("ckpt.tmp")), impl.Log{First: 4, Last: 4, Size: sizeOf(log)}, states[2], 2))
			for _, f := range faults() {
				bad := cloneDisk(d)
				f.arm(&bad, 0)
				after := cloneDisk(bad)
				f.met(&after)
				expectNoNode(t, f.what, nodeConfig(), bad, after, f.code)
			}
		}
	}
}

func TestNodeOpenGoesOnFromACheckpoint(t *testing.T) {
	b1, b2, b3 := threeBatches()
	states := statesOfThree()
	for lsn := range 4 {
		for what, segments := range map[string][]impl.File{
			"one segment":       {segmentOf(7, b1, b2, b3)},
			"a segment each":    {segmentOf(7, b1), segmentOf(8, b2), segmentOf(9, b3)},
			"an empty one":      {segmentOf(7, b1, b2, b3), segmentOf(8)},
			"empty ones":        {segmentOf(7), segmentOf(8, b1, b2), segmentOf(9), segmentOf(10, b3)},
			"some of them gone": {segmentOf(7, []impl.Batch{b1, b2, b3}[min(lsn, 2):]...)},
			"batches twice":     {segmentOf(7, b1, b1, b2), segmentOf(8, b2, b1, b3, b3)},
		} {
			d := diskOf(append(slices.Clone(segments), ckptOf(lsn, states[lsn]))...)
			last := segments[len(segments)-1]
			log := impl.Log{First: 7, Last: 6 + len(segments), Size: sizeOf(last)}
			expectNodeOpen(t, fmt.Sprintf("%s, lsn %d", what, lsn), nodeConfig(), d, openedNode(d, log, states[3], 3))
		}
		d := diskOf(ckptOf(lsn, states[lsn]))
		expectNodeOpen(t, fmt.Sprint("no segment, lsn ", lsn), nodeConfig(), d, openedNode(afterOps(t, d, create("wal-000001")), impl.Log{First: 1, Last: 1}, states[lsn], lsn))
		d = diskOf(ckptOf(lsn, states[lsn]), segmentOf(impl.MaxSegments))
		expectNodeOpen(t, fmt.Sprint("an empty segment, lsn ", lsn), nodeConfig(), d, openedNode(d, impl.Log{First: impl.MaxSegments, Last: impl.MaxSegments}, states[lsn], lsn))
	}
}

// A checkpoint may be ahead of everything in the log: what is passed over isn't carried out, and isn't asked.
func TestNodeOpenPassesOverWhatACheckpointHas(t *testing.T) {
	s := three()
	s.Tenants = s.Tenants[1:2]
	log := segmentOf(1, batch(9, tickRec(-1)), batch(3, seriesRec("", "")), batch(impl.MaxLsn-1, tickRec(impl.MaxClock)), batch(1, tickRec(0)))
	d := diskOf(ckptOf(impl.MaxLsn-1, s), log)
	expectNodeOpen(t, "all of them", nodeConfig(), d, openedNode(d, impl.Log{First: 1, Last: 1, Size: sizeOf(log)}, s, impl.MaxLsn-1))
	log = segmentOf(1, batch(9, tickRec(-1)), batch(impl.MaxLsn, tickRec(1)), batch(impl.MaxLsn, tickRec(1)))
	d = diskOf(ckptOf(impl.MaxLsn-1, s), log)
	after := cloneState(s)
	after.Now++
	expectNodeOpen(t, "all but the last", nodeConfig(), d, openedNode(d, impl.Log{First: 1, Last: 1, Size: sizeOf(log)}, after, impl.MaxLsn))
}

func TestNodeOpenOfACheckpointThatCannotBeRead(t *testing.T) {
	b1, b2, _ := threeBatches()
	torn := segmentOf(1, b1, b2)
	torn.Data += "torn"
	good := handState(1, statesOfThree()[1])
	notOK := handState(1, stateAt(20, owner("a", seenAt(15, keyNo("up", 1)))))
	for _, data := range []string{"", "C", "CKPT", good[:len(good)-1], good + "\x00", "D" + good[1:], notOK, handState(-1, impl.State{}), handState(impl.MaxLsn+1, impl.State{})} {
		for what, d := range map[string]impl.Disk{
			"no segment":     diskOf(firmFile("ckpt", data)),
			"a torn segment": diskOf(firmFile("ckpt", data), torn),
			"a gap":          diskOf(firmFile("ckpt", data), segmentOf(1, b1), segmentOf(3, b2)),
			"no batch":       diskOf(firmFile("ckpt", data), firmFile("wal-000001", framesOf("no batch"))),
		} {
			expectNoNode(t, what, nodeConfig(), d, d, impl.NodeState)
			left := diskOf(append(slices.Clone(d.Files), impl.File{Name: "ckpt.tmp", Data: good})...)
			expectNoNode(t, what+", and one that is unfinished", nodeConfig(), left, afterOps(t, left, remove("ckpt.tmp")), impl.NodeState)
		}
	}
	c := nodeConfig()
	d := diskOf(firmFile("ckpt", notOK), segmentOf(1))
	c.Window = 6
	if n, code := impl.NodeOpen(c, d); code != impl.NodeOK || n.Lsn != 1 {
		t.Errorf("a Window of 6: %d, %s", code, toldNode(n))
	}
}

func TestNodeOpenAnswersWhatTheLogAnswers(t *testing.T) {
	b1, b2, b3 := threeBatches()
	c, ckpt := nodeConfig(), ckptOf(1, statesOfThree()[1])
	torn := segmentOf(2, b2)
	torn.Data += impl.Frame(handBatch(b3))[:20]
	loose := segmentOf(2, b2)
	loose.Synced--
	gap := diskOf(ckpt, segmentOf(2, b1), segmentOf(4, b2))
	expectNoNode(t, "a gap", c, gap, gap, impl.LogGap)
	corrupt := diskOf(ckpt, torn, segmentOf(3, b3))
	expectNoNode(t, "a torn segment ahead of the last", c, corrupt, corrupt, impl.LogCorrupt)
	noBatch := firmFile("wal-000001", framesOf("no batch"))
	gap = diskOf(ckpt, noBatch, segmentOf(3, b1))
	expectNoNode(t, "a gap, and no batch", c, gap, gap, impl.LogGap)
	log := impl.Log{First: 2, Last: 2, Size: sizeOf(segmentOf(2, b2))}
	for what, x := range map[string]struct {
		d    impl.Disk
		op   impl.DiskOp
		log  impl.Log
		want int
	}{
		"a create":   {diskOf(ckpt), create("wal-000001"), impl.Log{First: 1, Last: 1}, 1},
		"a truncate": {diskOf(ckpt, torn), truncate("wal-000002", log.Size), log, 2},
		"a sync":     {diskOf(ckpt, loose), syncOf("wal-000002"), log, 2},
	} {
		expectNodeOpen(t, what, c, x.d, openedNode(afterOps(t, x.d, x.op), x.log, statesOfThree()[x.want], x.want))
		for _, f := range faults() {
			bad := cloneDisk(x.d)
			f.arm(&bad, 0)
			after := cloneDisk(bad)
			f.met(&after)
			expectNoNode(t, what+", "+f.what, c, bad, after, f.code)
		}
	}
	full := diskOf(append(numberedFiles(impl.MaxFiles-1), ckpt)...)
	after := cloneDisk(full)
	after.Count++
	expectNoNode(t, "no room for a segment", c, full, after, impl.DiskFull)
}

func TestNodeOpenOfALogThatDoesNotGoOn(t *testing.T) {
	b1, b2, b3 := threeBatches()
	c, states := nodeConfig(), statesOfThree()
	late := batch(2, tickRec(1), limitRec("B", "", 1))
	for what, d := range map[string]impl.Disk{
		"the first missing":           diskOf(segmentOf(1, b2, b3)),
		"one in the middle missing":   diskOf(segmentOf(1, b1, b3)),
		"one between segments":        diskOf(segmentOf(1, b1), segmentOf(2, b3)),
		"behind a checkpoint":         diskOf(ckptOf(1, states[1]), segmentOf(1, b1, b3)),
		"ahead of the first left":     diskOf(ckptOf(1, states[1]), segmentOf(1, b3)),
		"a checkpoint at the end":     diskOf(ckptOf(1, states[1]), segmentOf(1, batch(impl.MaxLsn, tickRec(1)))),
		"two that are one apart":      diskOf(segmentOf(1, b1, b2, batch(4, tickRec(1)))),
		"a tick that is refused":      diskOf(segmentOf(1, batch(1, tickRec(0)))),
		"a series that is refused":    diskOf(segmentOf(1, b1, batch(2, seriesRec("a", "no key")))),
		"a limit that is refused":     diskOf(segmentOf(1, b1, late, b3)),
		"a limit that is met":         diskOf(segmentOf(1, batch(1, limitRec("a", "", 0), seriesRec("a", keyNo("up", 1))))),
		"refused behind a checkpoint": diskOf(ckptOf(1, states[1]), segmentOf(1, b1, late)),
		"no batch at all":             diskOf(firmFile("wal-000001", framesOf("no batch"))),
		"no batch behind some":        diskOf(segmentOf(1, b1), firmFile("wal-000002", framesOf(handBatch(b2), "no batch"))),
		"no batch ahead of some":      diskOf(firmFile("wal-000001", framesOf("x")), segmentOf(2, b1, b2)),
		"a batch and a byte":          diskOf(firmFile("wal-000001", framesOf(handBatch(b1)+"\x00"))),
		"a batch less a byte":         diskOf(firmFile("wal-000001", framesOf(handBatch(b1)[:30]))),
		"a batch that isn't written":  diskOf(firmFile("wal-000001", framesOf(handBatch(batch(1, impl.Rec{Kind: impl.RecTick, Tenant: "a", Num: 1}))))),
		"no batch, under a ckpt":      diskOf(ckptOf(3, states[3]), firmFile("wal-000001", framesOf("no batch"))),
		"an Lsn of 0, under a ckpt":   diskOf(ckptOf(3, states[3]), segmentOf(1, batch(0, tickRec(1)))),
	} {
		expectNoNode(t, what, c, d, d, impl.NodeReplay)
		last := &d.Files[len(d.Files)-1]
		size := len(last.Data)
		last.Data += "torn"
		d.Files = append([]impl.File{{Name: "a"}}, d.Files...)
		expectNoNode(t, what+", torn", c, d, afterOps(t, d, truncate(last.Name, size)), impl.NodeReplay)
		d = diskOf(append(d.Files, impl.File{Name: "ckpt.tmp"})...)
		expectNoNode(t, what+", torn, and one that is unfinished", c, d, afterOps(t, d, remove("ckpt.tmp"), truncate(last.Name, size)), impl.NodeReplay)
	}
}

// Each operation in its order: the delete, then that of the log.
func TestNodeOpenOperationsInTheirOrder(t *testing.T) {
	b1, b2, _ := threeBatches()
	torn := segmentOf(1, b1)
	size := sizeOf(torn)
	torn.Data += impl.Frame(handBatch(b2))[:30]
	loose := segmentOf(1, b1)
	loose.Synced = 0
	left := impl.File{Name: "ckpt.tmp", Data: "left"}
	for what, x := range map[string]struct {
		d   impl.Disk
		ops []impl.DiskOp
	}{
		"empty": {diskOf(left), []impl.DiskOp{remove("ckpt.tmp"), create("wal-000001")}},
		"torn":  {diskOf(left, torn), []impl.DiskOp{remove("ckpt.tmp"), truncate("wal-000001", size)}},
		"loose": {diskOf(left, loose), []impl.DiskOp{remove("ckpt.tmp"), syncOf("wal-000001")}},
		"whole": {diskOf(left, segmentOf(1, b1)), []impl.DiskOp{remove("ckpt.tmp")}},
	} {
		for n := range x.ops {
			for _, f := range faults() {
				bad := cloneDisk(x.d)
				f.arm(&bad, n)
				after := afterOps(t, bad, x.ops[:n]...)
				f.met(&after)
				expectNoNode(t, fmt.Sprintf("%s, %s at operation %d", what, f.what, n), nodeConfig(), bad, after, f.code)
			}
		}
		for _, f := range faults() {
			armed := cloneDisk(x.d)
			f.arm(&armed, len(x.ops))
			if got := nodeOpenOf(nodeConfig(), armed); got.code != impl.NodeOK || !sameDisk(got.node.Disk, afterOps(t, armed, x.ops...)) {
				t.Errorf("%s, %s behind them all: %v", what, f.what, got)
			}
		}
	}
}
