package tests

import (
	"fmt"
	"slices"
	"strings"
	"testing"

	"loop.example/s02176/impl"
)

// askOnce hands a request to the node of a life; mayBe is then what it would have come to.
func (l *life) askOnce() replied {
	text := l.askText(l.pick(poolTenants...), l.config.Window)
	free := cloneNode(l.node)
	free.Disk.Cap, free.Disk.CrashAt, free.Disk.FailAt = impl.MaxDisk, 0, 0
	whole := modelHandle(l.config, free, text)
	l.mayBe.State, l.mayBe.Lsn = whole.node.State, whole.node.Lsn
	return handleOf(l.config, l.node, text)
}

// expectDeaf asks that a node which failed makes no change any more, and tells what it told before.
func (l *life) expectDeaf(t *testing.T, what string, n impl.Node) {
	t.Helper()
	for range 5 {
		r := l.ask(l.pick(poolTenants...), l.config.Window)
		want := "\x03"
		if r.Kind > impl.AskCheckpoint {
			want = modelQuestion(l.config, l.node.State, r)
		}
		if !n.Up {
			want = "\x04"
		}
		got := handleOf(l.config, n, handRequest(r))
		if !got.same(replied{n, want}) {
			t.Fatalf("%s, %s: %v, not %q and %s", what, toldRequest(r), got, want, toldNode(n))
		}
		n = got.node
	}
}

// Promises 9, 10 and 11 over whole lives of requests: what was answered is never lost, and nothing else comes.
func TestRequestsThroughCrashes(t *testing.T) {
	opens, failures, downs := 0, 0, 0
	for seed := range 300 {
		r := dice(seed)
		what := fmt.Sprint("seed ", seed)
		l := life{dice: &r, config: r.nodeConfig()}
		l.reopen(t, what, impl.Disk{Cap: 400 + r.below(3000)})
		for range 60 {
			l.node.Disk = r.armed(l.node.Disk, 15)
			got := l.askOnce()
			if got.node.Degraded {
				failures++
				if !got.node.Up {
					downs++
				}
				if !sameHistory(got.node, l.node) {
					t.Fatalf("%s: %v, was %s", what, got, toldNode(l.node))
				}
				l.expectDeaf(t, what, got.node)
				l.reopen(t, what, got.node.Disk)
				continue
			}
			if !sameHistory(got.node, l.mayBe) {
				t.Fatalf("%s: %v, not %s", what, got, toldNode(l.mayBe))
			}
			l.node, l.mayBe = got.node, got.node
			if r.below(20) == 0 {
				l.reopen(t, what, l.node.Disk)
			}
		}
		opens += l.opens
	}
	if opens < 1000 || failures < 500 || downs < 100 || downs == failures {
		t.Errorf("%d openings, %d failures, %d of them down: the test is too tame", opens, failures, downs)
	}
}

// Promise 7 for requests: under every Hash and number of shards the same requests have the same replies and nodes.
func TestRepliesDoNotHangOnTheHash(t *testing.T) {
	for seed := range 60 {
		first := dice(seed)
		c := first.nodeConfig()
		begun := mustOpen(t, c, impl.Disk{Cap: 500 + first.below(5000)})
		var told []replied
		for _, k := range hashings(c) {
			r, n := first, begun
			for at := range 40 {
				n.Disk = r.armed(n.Disk, 30)
				got := handleOf(k, n, r.askText(r.pick(poolTenants...), c.Window))
				if k == hashings(c)[0] {
					told = append(told, got)
				}
				if !got.same(told[at]) {
					t.Fatalf("seed %d, %v: %v, not %v", seed, k, got, told[at])
				}
				n = got.node
			}
		}
	}
}

// ownReplies hands in those of the requests that are kept, and gives the replies to those of one tenant.
func ownReplies(t *testing.T, c impl.Config, all []impl.Request, tenant string, keep func(impl.Request) bool) []string {
	t.Helper()
	n := mustOpen(t, c, impl.Disk{Cap: impl.MaxDisk})
	var own []string
	for _, r := range all {
		if !keep(r) {
			continue
		}
		got := handleOf(c, n, handRequest(r))
		if r.Tenant == tenant {
			own = append(own, got.reply)
		}
		n = got.node
	}
	return own
}

// Promise 13: a tenant's replies are the same without the requests of others and without checkpoints.
func TestRepliesHangOnTheTenantAlone(t *testing.T) {
	replies, verdicts := 0, map[int]int{}
	for seed := range 60 {
		r := dice(seed)
		c := r.nodeConfig()
		var all []impl.Request
		for range 80 {
			all = append(all, r.ask(r.pick(poolTenants...), c.Window))
		}
		for _, tenant := range poolTenants {
			mine := func(r impl.Request) bool { return r.Kind == impl.AskTick || r.Tenant == tenant }
			want := ownReplies(t, c, all, tenant, mine)
			for what, keep := range map[string]func(impl.Request) bool{
				"with all others":         func(impl.Request) bool { return true },
				"with checkpoints":        func(r impl.Request) bool { return mine(r) || r.Kind == impl.AskCheckpoint },
				"with others' writes":     func(r impl.Request) bool { return mine(r) || r.Kind == impl.AskWrite },
				"with others' limits":     func(r impl.Request) bool { return mine(r) || r.Kind == impl.AskLimit },
				"with others' questions":  func(r impl.Request) bool { return mine(r) || r.Kind >= impl.AskCount },
				"with some of the others": func(r impl.Request) bool { return mine(r) || len(r.Samples)%2 == 0 },
			} {
				if got := ownReplies(t, c, all, tenant, keep); !slices.Equal(got, want) {
					t.Fatalf("seed %d, %q %s: %q, not %q", seed, tenant, what, got, want)
				}
			}
			replies += len(want)
			for _, v := range []byte(strings.Join(want, "")) {
				verdicts[int(v)]++
			}
		}
	}
	expectSeen(t, verdicts, impl.VerdictKnown, impl.VerdictNew, impl.VerdictTenant, impl.VerdictMetric, impl.VerdictNaN)
	if replies < 2000 {
		t.Errorf("%d replies: the test is too tame", replies)
	}
}

// With one tenant less than MaxTenants there is still room: the limits of others don't count against a tenant.
func TestRepliesAmongVeryManyTenants(t *testing.T) {
	c := nodeConfig()
	alone := mustOpen(t, c, impl.Disk{Cap: impl.MaxDisk})
	crowd := alone
	crowd.State = stateAt(0, numberedTenants(impl.MaxTenants-1)...)
	for _, r := range []impl.Request{
		writeReq("a", nth("up", 1), nth("up", 2), nth("up", 3), nth("cpu", 1), nth("io", 1)), limitReq("a", "", 4), writeReq("a", nth("io", 1), nth("up", 1)),
		countReq("a", ""), dumpReq("a"), tickReq(5), dumpReq("a"), limitReq("a", "", -1), writeReq("a", nth("up", 9)), countReq("a", "up"),
	} {
		want, got := handleOf(c, alone, handRequest(r)), handleOf(c, crowd, handRequest(r))
		if got.reply != want.reply {
			t.Errorf("%s: %.80q among many, %.80q alone", toldRequest(r), got.reply, want.reply)
		}
		alone, crowd = want.node, got.node
	}
}
