package tests

import (
	"fmt"
	"math"
	"slices"
	"testing"

	"loop.example/s02176/impl"
)

// checkpointOps are the operations of a checkpoint of workNode.
func checkpointOps(n impl.Node) []impl.DiskOp {
	return []impl.DiskOp{
		create("ckpt.tmp"), appendTo("ckpt.tmp", handState(n.Lsn, n.State)), syncOf("ckpt.tmp"), rename("ckpt.tmp", "ckpt"),
		create(workNext), remove("wal-000004"), remove(workLast),
	}
}

// begunAnew is the log of workNode after a checkpoint.
func begunAnew() impl.Log { return impl.Log{First: 6, Last: 6} }

// leftNode is workNode with a checkpoint that was never finished.
func leftNode(t *testing.T, data string) impl.Node {
	t.Helper()
	n := workNode()
	n.Disk = afterOps(t, n.Disk, create("ckpt.tmp"), appendTo("ckpt.tmp", data))
	return n
}

func leftOps(n impl.Node) []impl.DiskOp {
	return append([]impl.DiskOp{remove("ckpt.tmp")}, checkpointOps(n)...)
}

func checkpointed(t *testing.T, n impl.Node, log impl.Log, ops []impl.DiskOp) noded {
	t.Helper()
	n.Disk, n.Log = afterOps(t, n.Disk, ops...), log
	return noded{n, impl.NodeOK}
}

// withoutCkpt is workNode from the time before its first checkpoint.
func withoutCkpt() impl.Node {
	b1, b2, b3 := threeBatches()
	n := workNode()
	n.Disk = diskOf(segmentOf(4, b1, b2), segmentOf(5, b3))
	return n
}

func TestCheckpointOfANode(t *testing.T) {
	for _, c := range hashings(nodeConfig()) {
		n := workNode()
		expectCheckpoint(t, "in the place of another", c, n, checkpointed(t, n, begunAnew(), checkpointOps(n)))
		n = withoutCkpt()
		expectCheckpoint(t, "the first", c, n, checkpointed(t, n, begunAnew(), checkpointOps(n)))
		for _, data := range []string{"", "junk", handState(9, impl.State{})} {
			n = leftNode(t, data)
			expectCheckpoint(t, fmt.Sprintf("one left: %.10q", data), c, n, checkpointed(t, n, begunAnew(), leftOps(n)))
		}
	}
}

func TestCheckpointLeavesWhatANodeIs(t *testing.T) {
	c := nodeConfig()
	after := checkpointOf(c, workNode())
	names := ""
	for _, f := range after.node.Disk.Files {
		names += f.Name + " "
	}
	if names != "ckpt wal-000006 x " || after.node.Disk.Count != 27 {
		t.Errorf("%s, %d operations", names, after.node.Disk.Count)
	}
	expectNodeOpen(t, "behind it", c, after.node.Disk, after)
	again := checkpointOf(c, after.node)
	if again.code != impl.NodeOK || again.node.Log != (impl.Log{First: 7, Last: 7}) || again.node.Disk.Count != 33 {
		t.Errorf("at once again: %v", again)
	}
	expectNodeOpen(t, "behind that", c, again.node.Disk, again)
}

func TestCheckpointOfOneSegmentOrMany(t *testing.T) {
	c := nodeConfig()
	for _, log := range []impl.Log{{First: 1, Last: 1}, {First: 1, Last: 4, Size: 3}, {First: 7, Last: 30}, {First: impl.MaxSegments - 1, Last: impl.MaxSegments - 1, Size: impl.MaxDisk}} {
		n := workNode()
		n.Disk = diskOf()
		n.Log = log
		ops := checkpointOps(n)[:4]
		ops = append(ops, create(fmt.Sprintf("wal-%06d", log.Last+1)))
		for at := log.First; at <= log.Last; at++ {
			n.Disk = afterOps(t, n.Disk, create(fmt.Sprintf("wal-%06d", at)))
			ops = append(ops, remove(fmt.Sprintf("wal-%06d", at)))
		}
		expectCheckpoint(t, fmt.Sprint(log), c, n, checkpointed(t, n, impl.Log{First: log.Last + 1, Last: log.Last + 1}, ops))
	}
}

func TestCheckpointWithoutALog(t *testing.T) {
	c := nodeConfig()
	for what, n := range spoilt() {
		for _, lsn := range []int{3, -1, impl.MaxLsn + 1} {
			n.Lsn = lsn
			for _, log := range noLogs() {
				n.Log = log
				expectCheckpoint(t, fmt.Sprint(what, ", ", log), c, n, noded{cloneNode(n), impl.LogGap})
			}
			for _, log := range []impl.Log{{First: 4, Last: impl.MaxSegments}, {First: impl.MaxSegments, Last: impl.MaxSegments, Size: impl.MaxDisk}} {
				n.Log = log
				expectCheckpoint(t, fmt.Sprint(what, ", ", log), c, n, noded{cloneNode(n), impl.LogEnd})
			}
		}
	}
}

func TestCheckpointOfWhatHasNoEncoding(t *testing.T) {
	c := nodeConfig()
	for what, n := range spoilt() {
		if n.Log.Last != 5 {
			continue
		}
		for _, n.Lsn = range []int{-1, impl.MaxLsn + 1, math.MaxInt, math.MinInt} {
			expectCheckpoint(t, fmt.Sprint(what, ", lsn ", n.Lsn), c, n, noded{cloneNode(n), impl.NodeState})
		}
		n.Lsn = 3
		for i, long := range []int{256, 65536, 65536} {
			n.State = longTexts(long)[i]
			expectCheckpoint(t, fmt.Sprint(what, ", a text of ", long), c, n, noded{cloneNode(n), impl.NodeState})
		}
	}
}

// What a checkpoint asks of the state is that it has an encoding.
func TestCheckpointAtTheEdges(t *testing.T) {
	c, n := nodeConfig(), workNode()
	for _, n.Lsn = range []int{0, 1, impl.MaxLsn - 1, impl.MaxLsn} {
		expectCheckpoint(t, fmt.Sprint("lsn ", n.Lsn), c, n, checkpointed(t, n, begunAnew(), checkpointOps(n)))
	}
	n.Disk.Cap = 1000000
	for i, long := range []int{255, 65535, 65535} {
		n.State = longTexts(long)[i]
		expectCheckpoint(t, fmt.Sprint("a text of ", long), c, n, checkpointed(t, n, begunAnew(), checkpointOps(n)))
	}
	for _, n.State = range []impl.State{{}, three(), stateAt(-1)} {
		expectCheckpoint(t, told(n.State), c, n, checkpointed(t, n, begunAnew(), checkpointOps(n)))
	}
}

func TestCheckpointFailsAtEachOperation(t *testing.T) {
	c := nodeConfig()
	for what, n := range map[string]impl.Node{"the first": withoutCkpt(), "another": workNode()} {
		logs := append(slices.Repeat([]impl.Log{n.Log}, 7), begunAnew())
		expectFailures(t, what, n, logs, checkpointOps(n), func(n impl.Node) noded { return checkpointOf(c, n) })
	}
	n := leftNode(t, "left")
	logs := append(slices.Repeat([]impl.Log{n.Log}, 8), begunAnew())
	expectFailures(t, "with one left", n, logs, leftOps(n), func(n impl.Node) noded { return checkpointOf(c, n) })
}

func TestCheckpointOnADiskThatRefuses(t *testing.T) {
	c := nodeConfig()
	expectFailed := func(what string, n impl.Node, done, code int) {
		t.Helper()
		left := afterOps(t, n.Disk, checkpointOps(n)[:done]...)
		left.Count++
		expectCheckpoint(t, what, c, n, failedNode(n, left, n.Log, code))
	}
	n := workNode()
	n.Disk.Cap = len(handState(n.Lsn, n.State))
	for _, f := range n.Disk.Files {
		n.Disk.Cap += len(f.Data)
	}
	expectCheckpoint(t, "just room", c, n, checkpointed(t, n, begunAnew(), checkpointOps(n)))
	n.Disk.Cap--
	expectFailed("a byte too few", n, 1, impl.DiskFull)

	n = workNode()
	n.Disk.Files = append(numberedFiles(impl.MaxFiles-2), n.Disk.Files[1:3]...)
	expectFailed("no room for a file", n, 0, impl.DiskFull)
	n.Disk.Files = n.Disk.Files[1:]
	expectFailed("room for one", n, 4, impl.DiskFull)
	n.Disk.Files = n.Disk.Files[1:]
	expectCheckpoint(t, "room for two", c, n, checkpointed(t, n, begunAnew(), checkpointOps(n)))

	n = workNode()
	n.Disk = afterOps(t, n.Disk, create(workNext))
	expectFailed("the next segment is there", n, 4, impl.DiskExists)
	n = workNode()
	n.Disk = afterOps(t, n.Disk, remove("wal-000004"))
	expectFailed("the first segment is missing", n, 5, impl.DiskMissing)
	n = workNode()
	n.Disk = afterOps(t, n.Disk, remove(workLast))
	expectFailed("the last segment is missing", n, 6, impl.DiskMissing)
}

// A log that says more than the disk has ends at the first segment that is missing.
func TestCheckpointOfALogThatIsTooLong(t *testing.T) {
	n := workNode()
	n.Log = impl.Log{First: 4, Last: impl.MaxSegments - 1}
	ops := append(checkpointOps(n)[:4], create("wal-999999"), remove("wal-000004"), remove("wal-000005"))
	left := afterOps(t, n.Disk, ops...)
	left.Count++
	expectCheckpoint(t, "too long", nodeConfig(), n, failedNode(n, left, n.Log, impl.DiskMissing))
}

// After a failure nothing more is written, until the disk is opened again.
func TestNothingIsWrittenBehindAFailure(t *testing.T) {
	c := nodeConfig()
	n := workNode()
	n.Disk.FailAt = n.Disk.Count + 2
	failed := nodeApplyOf(c, n, fits())
	if failed.code != impl.DiskFailed || !failed.node.Up || !failed.node.Degraded {
		t.Fatal(failed)
	}
	expectNodeApply(t, "records", c, failed.node, fits(), noded{failed.node, impl.NodeRefused})
	expectCheckpoint(t, "a checkpoint", c, failed.node, noded{failed.node, impl.NodeRefused})
	again := mustOpen(t, c, impl.DiskCrash(failed.node.Disk, nil))
	again = mustApply(t, c, again, fits()...)
	if again.Lsn != 4 || again.State.Now != n.State.Now+1 {
		t.Errorf("opened again: %s", toldNode(again))
	}
}
