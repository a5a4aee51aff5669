package tests

import (
	"fmt"
	"slices"
	"strings"
	"testing"

	"loop.example/s02176/impl"
)

// changing is a request that changes workNode, and what it comes to there.
type changing struct {
	what    string
	request impl.Request
	do      func(impl.Config, impl.Node) noded
}

// changings are writes, ticks and limits that fit in the last segment or need a new one, and a checkpoint.
func changings() []changing {
	long := strings.Repeat("m", 60)
	return []changing{
		{"a write that fits", writeReq("a", nth("up", 1)), applying(seriesRec("a", keyNo("up", 1)))},
		{"a write that rolls", writeReq("a", nth("up", 1), sampleOf(0), nth("up", 2)), applying(seriesRec("a", keyNo("up", 1)), seriesRec("a", keyNo("up", 2)))},
		{"a tick that fits", tickReq(4), applying(tickRec(4))},
		{"a limit that fits", limitReq("a", "", 2), applying(limitRec("a", "", 2))},
		{"a limit that rolls", limitReq("new", long, 0), applying(limitRec("new", long, 0))},
		{"a checkpoint", checkpointReq(), checkpointOf},
	}
}

func (x changing) rolls() bool { return strings.HasSuffix(x.what, "rolls") }

func (x changing) appends() bool { return x.request.Kind != impl.AskCheckpoint }

// expectByCode asks that the change is answered with this code by the node, and the request with that kind of reply.
func expectByCode(t *testing.T, what string, c impl.Config, n impl.Node, x changing, code, kind int) {
	t.Helper()
	want := x.do(c, n)
	if want.code != code {
		t.Errorf("%s, %s: the node answers %d, not %d", what, x.what, want.code, code)
	}
	expectHandle(t, what+", "+x.what, c, n, handRequest(x.request), replied{want.node, bytesOf(kind, 1)})
}

func TestRepliesToRefusalsOfTheNode(t *testing.T) {
	c := nodeConfig()
	for what, n := range spoilt() {
		for _, x := range changings() {
			for _, log := range noLogs() {
				n.Log = log
				expectByCode(t, what+", no log", c, n, x, impl.LogGap, impl.ReplyRefused)
			}
			n.Log = impl.Log{First: 4, Last: impl.MaxSegments, Size: 99}
			expectByCode(t, what+", the log at its end", c, n, x, impl.LogEnd, impl.ReplyRefused)
			n.Log = workNode().Log
			for _, lsn := range []int{-1, impl.MaxLsn + 1} {
				bad := n
				bad.Lsn = lsn
				expectByCode(t, fmt.Sprint(what, ", lsn ", lsn), c, bad, x, impl.NodeState, impl.ReplyRefused)
			}
			last := n
			last.Lsn = impl.MaxLsn
			if x.appends() {
				expectByCode(t, what+", the last lsn", c, last, x, impl.NodeState, impl.ReplyRefused)
			}
		}
	}
}

func TestRepliesToFailuresOfTheNode(t *testing.T) {
	c := nodeConfig()
	for _, x := range changings() {
		n := workNode()
		n.Disk.Down = true
		expectByCode(t, "down", c, n, x, impl.DiskDown, impl.ReplyDown)
		n = workNode()
		n.Disk.Count = impl.MaxCount
		expectByCode(t, "MaxCount", c, n, x, impl.DiskFailed, impl.ReplyUnavailable)
		n = workNode()
		n.Disk.Cap = bytesOn(n.Disk)
		expectByCode(t, "full", c, n, x, impl.DiskFull, impl.ReplyUnavailable)
		for what, d := range invalidDisks() {
			n = workNode()
			n.Disk = d
			expectByCode(t, what, c, n, x, impl.DiskBad, impl.ReplyUnavailable)
		}
		n = workNode()
		n.Disk = afterOps(t, n.Disk, create(workNext))
		if x.rolls() || !x.appends() {
			expectByCode(t, "the next segment is there", c, n, x, impl.DiskExists, impl.ReplyUnavailable)
		}
		n = workNode()
		n.Disk = afterOps(t, n.Disk, remove(workLast))
		if !x.rolls() {
			expectByCode(t, "the last segment is missing", c, n, x, impl.DiskMissing, impl.ReplyUnavailable)
		}
	}
}

func bytesOn(d impl.Disk) int {
	used := 0
	for _, f := range d.Files {
		used += len(f.Data)
	}
	return used
}

// expectShut asks what is answered to every kind by workNode after a failure: promise 11.
func expectShut(t *testing.T, what string, c impl.Config, n impl.Node) {
	t.Helper()
	for _, x := range shutReplies() {
		want := x.reply
		if !n.Up {
			want = "\x04"
		}
		got := handleOf(c, n, x.text)
		if !got.same(replied{n, want}) {
			t.Fatalf("%s, %.30q: %v, not %q and %s", what, x.text, got, want, toldNode(n))
		}
		n = got.node
	}
}

type textAndReply struct{ text, reply string }

// shutReplies are what a node with the state of workNode that is Up answers after a failure.
func shutReplies() []textAndReply {
	all := []textAndReply{{"", "\x01"}, {"\x04\x00", "\x01"}}
	for _, good := range goodQuestions() {
		all = append(all, textAndReply{handRequest(good.request), good.reply})
	}
	for _, r := range []impl.Request{countReq("A", ""), countReq("a", "\x00"), dumpReq("")} {
		all = append(all, textAndReply{handRequest(r), "\x02"})
	}
	for _, x := range changings() {
		all = append(all, textAndReply{handRequest(x.request), "\x03"})
	}
	for _, r := range []impl.Request{writeReq("a"), writeReq("A"), writeReq("a", sampleOf(0)), tickReq(0), limitReq("a", "", -2)} {
		all = append(all, textAndReply{handRequest(r), "\x03"})
	}
	return append(all, all...)
}

// expectFailedRequest hands the request in, and asks for a failure that leaves state and Lsn as they were, for what is answered
// behind it, and for the state after any crash: the one before or, but for a checkpoint, the one after.
func expectFailedRequest(t *testing.T, what string, c impl.Config, n, after impl.Node, x changing, code int) {
	t.Helper()
	want := x.do(c, n)
	reply := "\x03"
	if want.node.Disk.Down {
		reply = "\x04"
	}
	got := handleOf(c, n, handRequest(x.request))
	if want.code != code || !got.same(replied{want.node, reply}) || !got.node.Degraded || got.node.Up == got.node.Disk.Down || !sameHistory(got.node, n) {
		t.Fatalf("%s: %v, not %v with %q", what, got, want, reply)
	}
	expectShut(t, what, c, got.node)
	for _, keep := range keeps(got.node.Disk) {
		again := nodeOpenOf(c, impl.DiskCrash(got.node.Disk, keep))
		if again.code != impl.NodeOK || !sameHistory(again.node, n) && !sameHistory(again.node, after) {
			t.Fatalf("%s, %.20v kept: %v, neither %s nor %s", what, keep, again, toldNode(n), toldNode(after))
		}
		if sameHistory(again.node, n) {
			again.node.Disk.Cap += 1000
			if done := handleOf(c, again.node, handRequest(x.request)); !sameHistory(done.node, after) || done.node.Degraded {
				t.Fatalf("%s, %.20v kept, asked again: %v", what, keep, done)
			}
		}
	}
}

func TestAFaultAtEachOperationOfARequest(t *testing.T) {
	c := nodeConfig()
	for _, n := range []impl.Node{workNode(), withoutCkpt(), leftNode(t, "left")} {
		for _, x := range changings() {
			whole := handleOf(c, n, handRequest(x.request))
			if whole.reply[0] != impl.ReplyOK {
				t.Fatalf("%s: %v", x.what, whole)
			}
			for at := range whole.node.Disk.Count - n.Disk.Count {
				for _, f := range faults() {
					// A disk at MaxCount stays so, and can't be opened again: it has a test of its own.
					if f.what == "MaxCount" {
						continue
					}
					bad := cloneNode(n)
					f.arm(&bad.Disk, at)
					expectFailedRequest(t, fmt.Sprintf("%s, %s at operation %d", x.what, f.what, at), c, bad, whole.node, x, f.code)
				}
			}
		}
	}
}

// Behind the last operation of the disk nothing is done any more, so what the disk has after it is the state before.
func TestTheLastOperationsOfADisk(t *testing.T) {
	c := nodeConfig()
	for _, x := range changings() {
		whole := handleOf(c, workNode(), handRequest(x.request))
		ops := whole.node.Disk.Count - workNode().Disk.Count
		for left := range ops + 1 {
			n := workNode()
			n.Disk.Count = impl.MaxCount - left
			got, want := handleOf(c, n, handRequest(x.request)), "\x03"
			if left == ops {
				want = whole.reply
			}
			if got.reply != want || got.node.Disk.Count != impl.MaxCount || got.node.Degraded != (left < ops) {
				t.Errorf("%s with %d of %d operations left: %v", x.what, left, ops, got)
			}
			if left < ops {
				expectShut(t, x.what, c, got.node)
			}
		}
	}
}

func TestAFullDiskAtEachOperationOfARequest(t *testing.T) {
	c := nodeConfig()
	for _, x := range changings() {
		for _, n := range []impl.Node{workNode(), withoutCkpt()} {
			whole := handleOf(c, n, handRequest(x.request))
			used, refusedBytes := bytesOn(n.Disk), 0
			for room := 0; ; room++ {
				n.Disk.Cap = used + room
				if x.do(c, n).code == impl.NodeOK {
					break
				}
				refusedBytes++
				expectFailedRequest(t, fmt.Sprintf("%s with room for %d bytes", x.what, room), c, n, whole.node, x, impl.DiskFull)
			}
			if got := handleOf(c, n, handRequest(x.request)); got.reply != whole.reply || refusedBytes < 20 {
				t.Errorf("%s with room for all its %d bytes: %v", x.what, refusedBytes, got)
			}
		}
	}
}

// crowded has as many more files as it takes to have n of them.
func crowded(d impl.Disk, n int) impl.Disk {
	files := append(slices.Clone(d.Files), numberedFiles(n-len(d.Files))...)
	return diskOf(files...)
}

func TestTooManyFilesForARequest(t *testing.T) {
	c := nodeConfig()
	for _, x := range changings() {
		for _, files := range []int{impl.MaxFiles - 1, impl.MaxFiles} {
			n := withoutCkpt()
			n.Disk = crowded(n.Disk, files)
			whole := handleOf(c, withoutCkpt(), handRequest(x.request))
			// A segment needs one more file, and a checkpoint, without one in whose place it comes, two.
			if x.rolls() && files == impl.MaxFiles || !x.appends() {
				want := x.do(c, n)
				got := handleOf(c, n, handRequest(x.request))
				if want.code != impl.DiskFull || !got.same(replied{want.node, "\x03"}) || !sameHistory(got.node, n) {
					t.Errorf("%s among %d files: %v", x.what, files, got)
				}
				expectShut(t, x.what, c, got.node)
				if again := nodeOpenOf(c, impl.DiskCrash(got.node.Disk, nil)); again.code != impl.NodeOK || !sameHistory(again.node, n) {
					t.Errorf("%s among %d files, opened again: %v", x.what, files, again)
				}
			} else if got := handleOf(c, n, handRequest(x.request)); got.reply != whole.reply {
				t.Errorf("%s among %d files: %v", x.what, files, got)
			}
		}
	}
}

// Promise 9 for requests: what was answered OK is there after any crash.
func TestAnsweredRequestsSurviveACrash(t *testing.T) {
	c := nodeConfig()
	for _, x := range changings() {
		for _, n := range []impl.Node{workNode(), withoutCkpt(), leftNode(t, "left")} {
			after := handleOf(c, n, handRequest(x.request))
			if after.reply[0] != impl.ReplyOK {
				t.Fatalf("%s: %v", x.what, after)
			}
			for _, keep := range keeps(after.node.Disk) {
				again := nodeOpenOf(c, impl.DiskCrash(after.node.Disk, keep))
				if again.code != impl.NodeOK || !sameHistory(again.node, after.node) {
					t.Errorf("%s, %.20v kept: %v, not %v", x.what, keep, again, after)
				}
			}
		}
	}
}
