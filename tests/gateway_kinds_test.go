package tests

import (
	"fmt"
	"strings"
	"testing"

	"loop.example/s02176/impl"
)

// expectChangeBy asks that a request is answered OK, and makes of the node what these records do.
func expectChangeBy(t *testing.T, c impl.Config, n impl.Node, r impl.Request, rec impl.Rec) impl.Node {
	t.Helper()
	want := modelNodeApply(c, n, recs(rec))
	if want.code != impl.NodeOK {
		t.Fatalf("%v is answered %d", rec, want.code)
	}
	expectHandle(t, toldRequest(r), c, n, handRequest(r), replied{want.node, "\x00"})
	return want.node
}

func TestTicksByRequests(t *testing.T) {
	c, n := nodeConfig(), workNode()
	for _, by := range []int{1, 2, 4, 5, 100, impl.MaxClock - 4, impl.MaxClock - 3} {
		after := expectChangeBy(t, c, n, tickReq(by), tickRec(by))
		if after.State.Now != 3+by || after.Lsn != 4 {
			t.Errorf("%d: %s", by, toldNode(after))
		}
	}
}

func TestLimitsByRequests(t *testing.T) {
	c, n := nodeConfig(), workNode()
	for _, tenant := range []string{"a", "b", "new", "-", strings.Repeat("t", impl.MaxTenant)} {
		for _, name := range append(metricNames(), "") {
			for _, limit := range []int{-1, 0, 1, 255, 256, impl.MaxLimit} {
				expectChangeBy(t, c, n, limitReq(tenant, name, limit), limitRec(tenant, name, limit))
			}
		}
	}
	set := expectChangeBy(t, c, n, limitReq("new", "", 5), limitRec("new", "", 5))
	if after := expectChangeBy(t, c, set, limitReq("new", "", -1), limitRec("new", "", -1)); !sameState(after.State, n.State) || after.Lsn != 5 {
		t.Errorf("set and taken away: %s", toldNode(after))
	}
}

func TestCheckpointsByRequests(t *testing.T) {
	c := nodeConfig()
	for what, n := range map[string]impl.Node{"in the place of another": workNode(), "the first": withoutCkpt(), "one left": leftNode(t, "junk")} {
		want := modelCheckpoint(n)
		if want.code != impl.NodeOK || want.node.Log != begunAnew() {
			t.Fatalf("%s: %v", what, want)
		}
		expectHandle(t, what, c, n, "\x04", replied{want.node, "\x00"})
		again := modelCheckpoint(want.node)
		expectHandle(t, what+", again", c, want.node, "\x04", replied{again.node, "\x00"})
	}
}

// threeNode has the state three, of plainConfig.
func threeNode() impl.Node {
	n := workNode()
	n.State = three()
	return n
}

func TestCountsByRequests(t *testing.T) {
	c, n := plainConfig(), threeNode()
	for _, x := range []struct {
		tenant, name string
		count, limit int
	}{
		{"acme", "", 3, 4}, {"acme", "up", 2, 2}, {"acme", "cpu", 1, 2}, {"acme", "mem", 0, 2},
		{"beta", "", 0, 0}, {"beta", "up", 0, 1000000}, {"beta", "cpu", 0, 0}, {"beta", "é", 0, 2},
		{"gamma", "", 1, 2}, {"gamma", "up", 1, 1}, {"gamma", "cpu", 0, 2},
		{"nobody", "", 0, 4}, {"nobody", "up", 0, 2}, {"a", strings.Repeat("\U0010ffff", impl.MaxValue), 0, 2},
	} {
		r := countReq(x.tenant, x.name)
		expectHandle(t, toldRequest(r), c, n, handRequest(r), replied{n, countReply(x.count, x.limit)})
	}
	c.TenantLimit, c.MetricLimit = impl.MaxLimit, 0
	expectHandle(t, "other limits", c, n, handRequest(countReq("acme", "")), replied{n, countReply(3, impl.MaxLimit)})
	expectHandle(t, "other limits", c, n, handRequest(countReq("acme", "up")), replied{n, countReply(2, 0)})
}

func TestDumpsByRequests(t *testing.T) {
	c, n := plainConfig(), threeNode()
	for tenant, series := range map[string][]impl.Series{"acme": n.State.Tenants[0].Series, "beta": nil, "gamma": n.State.Tenants[2].Series, "nobody": nil} {
		expectHandle(t, tenant, c, n, handRequest(dumpReq(tenant)), replied{n, dumpReply(20, series...)})
	}
	empty := mustOpen(t, c, impl.Disk{Cap: 1000})
	expectHandle(t, "an empty node", c, empty, handRequest(dumpReq("a")), replied{empty, dumpReply(0)})
	n.State = stateAt(impl.MaxClock, owner("a", some("up", 300)...), owner("b", some("cpu", 70000)...))
	for i := range n.State.Tenants {
		for j := range n.State.Tenants[i].Series {
			n.State.Tenants[i].Series[j].Last = impl.MaxClock - j%10
		}
	}
	for _, tenant := range n.State.Tenants {
		if got := handleOf(c, n, handRequest(dumpReq(tenant.Name))); got.reply != dumpReply(impl.MaxClock, tenant.Series...) {
			t.Errorf("%d series: %.100q", len(tenant.Series), got.reply)
		}
	}
}

// The greatest key is told in full.
func TestADumpOfTheGreatestKey(t *testing.T) {
	c := nodeConfig()
	c.Segment = 1000000
	n := mustOpen(t, c, impl.Disk{Cap: 100000})
	n = expectWrite(t, "a long write", c, n, "a", samples(sampleOf(0, greatest()...)), 2)
	expectHandle(t, "a long dump", c, n, handRequest(dumpReq("a")), replied{n, dumpReply(0, seenAt(0, handKey(greatest()...)))})
}

// A question changes nothing, so it is answered on a disk that takes nothing.
func TestQuestionsDoNotTouchTheDisk(t *testing.T) {
	c := nodeConfig()
	for what, n := range spoilt() {
		n.Disk.FailAt = n.Disk.Count + 1
		for _, good := range goodQuestions() {
			expectHandle(t, fmt.Sprint(what, ", ", toldRequest(good.request)), c, n, handRequest(good.request), replied{n, good.reply})
		}
	}
}
