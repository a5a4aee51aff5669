package tests

import (
	"fmt"
	"math"
	"testing"

	"loop.example/s02176/impl"
)

// asked is a request, and the reply that it should have.
type asked struct {
	request impl.Request
	reply   string
}

// goodChanges are made on workNode, goodQuestions are answered.
func goodChanges() []asked {
	return []asked{
		{writeReq("a", nth("up", 1)), "\x00\x00\x01\x01"},
		{writeReq("a"), "\x00\x00\x00"},
		{writeReq("a", sampleOf(0)), "\x00\x00\x01\x2e"},
		{tickReq(1), "\x00"},
		{limitReq("new", "up", 3), "\x00"},
		{checkpointReq(), "\x00"},
	}
}

func goodQuestions() []asked {
	return []asked{
		{countReq("a", ""), countReply(1, 3)},
		{countReq("new", "up"), countReply(0, 2)},
		{dumpReq("a"), dumpReply(3, seenAt(0, keyNo("up", 1)))},
		{dumpReq("new"), dumpReply(3)},
	}
}

// refusedChanges and refusedQuestions are well formed, but the state or a name is against them.
func refusedChanges() []impl.Request {
	all := []impl.Request{tickReq(0), tickReq(-1), tickReq(impl.MaxClock - 2), tickReq(math.MaxInt), tickReq(math.MinInt)}
	for _, name := range notTenantNames() {
		if len(name) <= 255 {
			all = append(all, writeReq(name), writeReq(name, nth("up", 1)), writeReq(name, sampleOf(0)), limitReq(name, "", 1), limitReq(name, "up", -1))
		}
	}
	for _, name := range notMetricNames() {
		all = append(all, limitReq("a", name, 1), limitReq("a", name, -1))
	}
	for _, limit := range []int{-2, impl.MaxLimit + 1, math.MaxInt, math.MinInt} {
		all = append(all, limitReq("a", "", limit), limitReq("a", "up", limit), limitReq("new", "", limit))
	}
	return all
}

func refusedQuestions() []impl.Request {
	var all []impl.Request
	for _, name := range notTenantNames() {
		if len(name) <= 255 {
			all = append(all, countReq(name, ""), countReq(name, "up"), countReq(name, "\x00"), dumpReq(name))
		}
	}
	for _, name := range notMetricNames() {
		all = append(all, countReq("a", name), countReq("new", name))
	}
	return all
}

func malformedTexts() []string {
	all := []string{"", "\x00", "\x07", "\xff", "\x04\x00", "\x04\x04", "no request", "\x02\x00", "\x01\x01a\x00\x01", "\x05\x02a\x00\x00"}
	for _, r := range append(eachRequest(), refusedChanges()...) {
		text := handRequest(r)
		all = append(all, text+"\x00", text[:len(text)-1])
	}
	return append(all, handRequest(writeReq("a", samplesLong(impl.MaxRequest)...)))
}

// allTexts has a request of every sort.
func allTexts() []string {
	all := []string{"", "\x00", "\x04\x00", handRequest(writeReq("A", sampleOf(0))), handRequest(tickReq(0)), handRequest(limitReq("a", "", -2)), handRequest(countReq("a", "\x00")), handRequest(dumpReq(""))}
	for _, good := range append(goodChanges(), goodQuestions()...) {
		all = append(all, handRequest(good.request))
	}
	return all
}

// flagged gives a node with each setting of its two flags.
func flagged(n impl.Node) (fine, degraded, down, both impl.Node) {
	fine, degraded, down, both = cloneNode(n), cloneNode(n), cloneNode(n), cloneNode(n)
	fine.Up, degraded.Up, degraded.Degraded, down.Up, both.Up, both.Degraded = true, true, true, false, false, true
	return
}

func TestReplyDownComesFirst(t *testing.T) {
	c := nodeConfig()
	for what, n := range spoilt() {
		fine, degraded, down, both := flagged(n)
		for _, text := range allTexts() {
			for _, k := range append(wrongConfigs(c), impl.Config{Window: math.MinInt}) {
				for _, m := range []impl.Node{fine, degraded, down, both} {
					if got := handleOf(k, m, text); !got.same(replied{m, "\x04"}) {
						t.Errorf("%s, config %v, %.30q: %v", what, k, text, got)
					}
				}
			}
			expectOnly(t, what+", not Up", c, down, text, impl.ReplyDown)
			expectOnly(t, what+", not Up and degraded", c, both, text, impl.ReplyDown)
		}
	}
	for _, text := range allTexts() {
		expectOnly(t, "the zero node", c, impl.Node{}, text, impl.ReplyDown)
	}
}

func TestReplyDownForAStateThatIsNotOK(t *testing.T) {
	c := nodeConfig()
	for why, s := range notOKStates() {
		n := workNode()
		n.State = s
		for _, n.Degraded = range []bool{false, true} {
			for _, text := range []string{"", "\x04", handRequest(tickReq(0)), handRequest(writeReq("A")), handRequest(writeReq("a", nth("up", 1))), handRequest(dumpReq("a")), handRequest(countReq("a", "up"))} {
				if got := handleOf(c, n, text); !got.same(replied{n, "\x04"}) {
					t.Errorf("%s, %.30q: %v", why, text, got)
				}
			}
		}
	}
}

// A state that is OK under one config may not be under another.
func TestReplyDownUnderAnotherConfig(t *testing.T) {
	c, n := nodeConfig(), workNode()
	for _, c.Window = range []int{1, 2, 3} {
		expectOnly(t, "a Window too short", c, n, handRequest(countReq("a", "")), impl.ReplyDown)
	}
	c.Window = 4
	expectHandle(t, "a Window just long enough", c, n, handRequest(countReq("a", "")), replied{n, countReply(1, 3)})
}

func TestReplyMalformedComesNext(t *testing.T) {
	c := nodeConfig()
	for what, n := range spoilt() {
		fine, degraded, _, _ := flagged(n)
		for i, text := range malformedTexts() {
			if what != "as it was" && i > 30 {
				break
			}
			expectOnly(t, fmt.Sprintf("%s, %.30q", what, text), c, fine, text, impl.ReplyMalformed)
			expectOnly(t, fmt.Sprintf("%s and degraded, %.30q", what, text), c, degraded, text, impl.ReplyMalformed)
		}
	}
}

func TestReplyUnavailableComesNext(t *testing.T) {
	c := nodeConfig()
	for what, n := range spoilt() {
		_, degraded, _, _ := flagged(n)
		for _, degraded.Lsn = range []int{3, -1, impl.MaxLsn} {
			for _, good := range goodChanges() {
				expectOnly(t, what+", "+toldRequest(good.request), c, degraded, handRequest(good.request), impl.ReplyUnavailable)
			}
		}
		for _, r := range refusedChanges() {
			expectOnly(t, what+", "+toldRequest(r), c, degraded, handRequest(r), impl.ReplyUnavailable)
		}
		for _, r := range refusedQuestions() {
			expectOnly(t, what+", "+toldRequest(r), c, degraded, handRequest(r), impl.ReplyRefused)
		}
		for _, good := range goodQuestions() {
			expectHandle(t, what+", "+toldRequest(good.request), c, degraded, handRequest(good.request), replied{degraded, good.reply})
		}
	}
}

func TestReplyRefusedComesNext(t *testing.T) {
	c := nodeConfig()
	for what, n := range spoilt() {
		for _, n.Lsn = range []int{3, impl.MaxLsn} {
			for _, r := range append(refusedChanges(), refusedQuestions()...) {
				expectOnly(t, what+", "+toldRequest(r), c, n, handRequest(r), impl.ReplyRefused)
			}
		}
		for _, good := range goodQuestions() {
			expectHandle(t, what+", "+toldRequest(good.request), c, n, handRequest(good.request), replied{n, good.reply})
		}
	}
}

func TestGoodRequestsAreCarriedOut(t *testing.T) {
	c, n := nodeConfig(), workNode()
	for _, good := range goodChanges() {
		if got := handleOf(c, n, handRequest(good.request)); got.reply != good.reply || !got.node.Up || got.node.Degraded {
			t.Errorf("%s: %v, not %q", toldRequest(good.request), got, good.reply)
		}
	}
	for _, good := range goodQuestions() {
		expectHandle(t, toldRequest(good.request), c, n, handRequest(good.request), replied{n, good.reply})
	}
}
