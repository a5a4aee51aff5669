package tests

import (
	"fmt"
	"math"
	"slices"
	"testing"

	"loop.example/s02176/impl"
)

// changeOf is the change that a record stands for; another kind is always refused.
func changeOf(r impl.Rec) change {
	switch r.Kind {
	case impl.RecSeries:
		return sampled(r.Tenant, r.Text)
	case impl.RecTick:
		return ticked(r.Num)
	case impl.RecLimit:
		return limited(r.Tenant, r.Text, r.Num)
	}
	return func(c impl.Config, s impl.State) (impl.State, int) { return s, refused }
}

// oneByOne is ApplyRecs once more, with a state of its own after each record.
func oneByOne(c impl.Config, s impl.State, all []impl.Rec) (impl.State, bool) {
	if len(all) > 500 {
		return s, false
	}
	after := s
	for _, r := range all {
		next, code := changeOf(r)(c, after)
		if code != done && code != impl.VerdictKnown && code != impl.VerdictNew {
			return s, false
		}
		after = next
	}
	return after, true
}

// expectApplied asks for this state under every hashing, and that the arguments are as they were.
func expectApplied(t *testing.T, what string, c impl.Config, s impl.State, all []impl.Rec, want impl.State, ok bool) {
	t.Helper()
	before, given := cloneState(s), slices.Clone(all)
	for _, k := range hashings(c) {
		after, got := impl.ApplyRecs(k, s, all)
		if got != ok || !sameState(after, want) {
			t.Errorf("%s: %s, %v, not %s, %v", what, told(after), got, told(want), ok)
		}
		if !impl.StateOK(k, after) {
			t.Errorf("%s: %s is not OK", what, told(after))
		}
	}
	if !sameState(s, before) || !slices.Equal(all, given) {
		t.Fatalf("%s: the arguments became %s and %v, were %s and %v", what, told(s), all, told(before), given)
	}
}

// expectTurnedDown asks for the state that was handed in, with false.
func expectTurnedDown(t *testing.T, what string, c impl.Config, s impl.State, all []impl.Rec) {
	t.Helper()
	expectApplied(t, what, c, s, all, cloneState(s), false)
}

func TestApplyOfEachKind(t *testing.T) {
	c, s := plainConfig(), three()
	acme, beta, gamma := s.Tenants[0], s.Tenants[1], s.Tenants[2]
	expectApplied(t, "none", c, s, nil, s, true)
	expectApplied(t, "none on nothing", c, impl.State{}, nil, impl.State{}, true)
	expectApplied(t, "a known series", c, s, recs(seriesRec("gamma", keyNo("up", 7))),
		stateAt(20, acme, beta, filled(held("gamma", 2, most("up", 1)), seenAt(20, keyNo("up", 7)))), true)
	expectApplied(t, "a new series", c, s, recs(seriesRec("new", keyNo("up", 7))),
		stateAt(20, acme, beta, gamma, owner("new", seenAt(20, keyNo("up", 7)))), true)
	expectApplied(t, "a tick", c, s, recs(tickRec(5)),
		stateAt(25, owner("acme", seenAt(20, keyNo("up", 2))), beta, held("gamma", 2, most("up", 1))), true)
	expectApplied(t, "a tenant's limit", c, s, recs(limitRec("beta", "", 9)),
		stateAt(20, acme, held("beta", 9, beta.Metrics...), gamma), true)
	expectApplied(t, "a metric's limit", c, s, recs(limitRec("beta", "cpu", -1)),
		stateAt(20, acme, held("beta", 0, most("up", 1000000)), gamma), true)
	expectApplied(t, "all of them", c, impl.State{}, recs(limitRec("a", "up", 1), tickRec(3), seriesRec("a", keyNo("up", 1)), seriesRec("b", keyNo("cpu", 2)), tickRec(1), limitRec("a", "up", -1)),
		stateAt(4, owner("a", seenAt(3, keyNo("up", 1))), owner("b", seenAt(3, keyNo("cpu", 2)))), true)
}

// What ApplyRecs asks is what Admit, Tick and SetLimit answer: only the encoding looks at the other fields.
func TestApplyLooksAtNoOtherField(t *testing.T) {
	c := plainConfig()
	expectApplied(t, "a series with a number", c, impl.State{}, recs(impl.Rec{Kind: impl.RecSeries, Tenant: "a", Text: keyNo("up", 1), Num: 7}),
		stateAt(0, owner("a", seenAt(0, keyNo("up", 1)))), true)
	expectApplied(t, "a tick with texts", c, impl.State{}, recs(impl.Rec{Kind: impl.RecTick, Tenant: "A", Text: "\x00", Num: 7}), stateAt(7), true)
}

// refusedRecs are refused on three, and behind records that don't touch their tenants.
func refusedRecs() map[string]impl.Rec {
	all := map[string]impl.Rec{
		"the tenant's limit":    seriesRec("beta", keyNo("mem", 1)),
		"the metric's limit":    seriesRec("acme", keyNo("up", 3)),
		"a limit of the metric": seriesRec("gamma", keyNo("up", 1)),
		"a series of no tenant": seriesRec("", keyNo("up", 1)),
		"a series of no name":   seriesRec("Acme", keyNo("up", 1)),
		"a long tenant":         seriesRec(bytesLong(256), keyNo("up", 1)),
		"no key":                seriesRec("acme", ""),
		"a key that is none":    seriesRec("acme", "up"),
		"a long key":            seriesRec("acme", bytesLong(65536)),
		"a tick of 0":           tickRec(0),
		"a tick back":           tickRec(-1),
		"a tick past the clock": tickRec(impl.MaxClock - 19),
		"the greatest tick":     tickRec(math.MaxInt),
		"the least tick":        tickRec(math.MinInt),
		"a limit of no tenant":  limitRec("", "", 1),
		"a limit of no name":    limitRec("acm.e", "", 1),
		"no metric":             limitRec("acme", "\x1f", 1),
		"a limit too low":       limitRec("acme", "", -2),
		"a limit too high":      limitRec("acme", "up", impl.MaxLimit+1),
	}
	for _, kind := range []int{0, 4, -1, 255, 256, 257, 258, 259, math.MaxInt, math.MinInt, math.MinInt + 2} {
		all[fmt.Sprint("kind ", kind)] = impl.Rec{Kind: kind, Tenant: "acme", Text: "", Num: 1}
	}
	return all
}

func TestApplyIsRefusedAtEachPlace(t *testing.T) {
	c := plainConfig()
	for what, r := range refusedRecs() {
		expectTurnedDown(t, what+", alone", c, three(), recs(r))
		expectTurnedDown(t, what+", first", c, three(), recs(r, seriesRec("new", keyNo("up", 1)), limitRec("beta", "up", 2)))
		expectTurnedDown(t, what+", in the middle", c, three(), recs(seriesRec("acme", keyNo("up", 1)), seriesRec("new", keyNo("up", 1)), r, limitRec("beta", "up", 2)))
		expectTurnedDown(t, what+", behind changes of each kind", c, three(), recs(limitRec("zeta", "up", 3), limitRec("beta", "up", -1), seriesRec("acme", keyNo("cpu", 1)), r))
		expectTurnedDown(t, what+", twice", c, three(), recs(limitRec("zeta", "", 1), r, limitRec("zeta", "", 2), r))
	}
}

func TestApplyOfTooMany(t *testing.T) {
	c := plainConfig()
	for _, n := range []int{1, 2, impl.MaxBatch - 1, impl.MaxBatch} {
		expectApplied(t, fmt.Sprint(n, " ticks"), c, stateAt(7), slices.Repeat(recs(tickRec(2)), n), stateAt(7+2*n), true)
	}
	for _, n := range []int{impl.MaxBatch + 1, impl.MaxBatch + 2, 2000} {
		expectTurnedDown(t, fmt.Sprint(n, " ticks"), c, three(), slices.Repeat(recs(tickRec(2)), n))
	}
	full := slices.Repeat(recs(limitRec("zeta", "", 1)), impl.MaxBatch-1)
	for what, r := range refusedRecs() {
		expectTurnedDown(t, what+" is the last", c, three(), append(slices.Clone(full), r))
	}
}

func TestApplyWithoutAState(t *testing.T) {
	all := [][]impl.Rec{nil, recs(tickRec(1)), recs(tickRec(0)), recs(seriesRec("a", keyNo("up", 1))), slices.Repeat(recs(tickRec(1)), impl.MaxBatch+1)}
	expectNone := func(what string, c impl.Config, s impl.State) {
		t.Helper()
		before := cloneState(s)
		for _, some := range all {
			if after, ok := impl.ApplyRecs(c, s, some); ok || !sameState(after, impl.State{}) {
				t.Errorf("%s, %d records: %s, %v", what, len(some), told(after), ok)
			}
		}
		if !sameState(s, before) {
			t.Errorf("%s: the argument became %s, was %s", what, told(s), told(before))
		}
	}
	for what, s := range notOKStates() {
		expectNone(what, plainConfig(), s)
	}
	for _, c := range wrongConfigs(plainConfig()) {
		expectNone(fmt.Sprint(c), c, impl.State{})
		expectNone(fmt.Sprint(c), c, three())
	}
}

func TestRecordsFollowOnEachOther(t *testing.T) {
	c := plainConfig()
	a1, a2, a3 := seriesRec("a", keyNo("up", 1)), seriesRec("a", keyNo("cpu", 2)), seriesRec("a", keyNo("mem", 3))
	upToIt := recs(limitRec("a", "", 2), a1, a2)
	limit2 := filled(held("a", 2), seenAt(0, keyNo("up", 1)), seenAt(0, keyNo("cpu", 2)))
	expectApplied(t, "series up to a limit", c, impl.State{}, upToIt, stateAt(0, limit2), true)
	expectApplied(t, "and known ones", c, impl.State{}, append(slices.Clone(upToIt), a1, a2, a1), stateAt(0, limit2), true)
	expectTurnedDown(t, "one more", c, impl.State{}, append(slices.Clone(upToIt), a3))
	expectApplied(t, "one more by a new limit", c, impl.State{}, append(slices.Clone(upToIt), limitRec("a", "", 3), a3),
		stateAt(0, filled(held("a", 3), seenAt(0, keyNo("up", 1)), seenAt(0, keyNo("cpu", 2)), seenAt(0, keyNo("mem", 3)))), true)
	expectTurnedDown(t, "a lower limit", c, impl.State{}, recs(a1, a2, limitRec("a", "", 1), a3))
	expectApplied(t, "a lower limit alone", c, impl.State{}, recs(a1, a2, limitRec("a", "", 1), a1), stateAt(0, filled(held("a", 1), limit2.Series...)), true)
	expectTurnedDown(t, "a metric's limit", c, impl.State{}, recs(limitRec("a", "up", 1), a1, seriesRec("a", keyNo("up", 2))))
	expectApplied(t, "a limit set and taken away", c, impl.State{}, recs(limitRec("a", "up", 1), limitRec("a", "up", -1)), impl.State{}, true)
}

func TestRecordsOverAWindow(t *testing.T) {
	c := plainConfig()
	a1, a2, a3 := seriesRec("a", keyNo("up", 1)), seriesRec("a", keyNo("up", 2)), seriesRec("a", keyNo("up", 3))
	expectTurnedDown(t, "a Window less one", c, impl.State{}, recs(a1, a2, tickRec(9), a3))
	expectApplied(t, "a Window", c, impl.State{}, recs(a1, a2, tickRec(10), a3), stateAt(10, owner("a", seenAt(10, keyNo("up", 3)))), true)
	expectApplied(t, "in two ticks", c, impl.State{}, recs(a1, a2, tickRec(9), tickRec(1), a3), stateAt(10, owner("a", seenAt(10, keyNo("up", 3)))), true)
	again := recs(a1, a2, tickRec(9), a1, tickRec(1))
	expectApplied(t, "one seen again", c, impl.State{}, again, stateAt(10, owner("a", seenAt(9, keyNo("up", 1)))), true)
	expectApplied(t, "and one in the other's place", c, impl.State{}, append(slices.Clone(again), a3),
		stateAt(10, owner("a", seenAt(9, keyNo("up", 1)), seenAt(10, keyNo("up", 3)))), true)
	expectTurnedDown(t, "and one too many", c, impl.State{}, append(slices.Clone(again), a3, a2))
	expectApplied(t, "seen again, then its Window less one", c, impl.State{}, append(slices.Clone(again), tickRec(8)), stateAt(18, owner("a", seenAt(9, keyNo("up", 1)))), true)
	expectApplied(t, "seen again, then its Window", c, impl.State{}, append(slices.Clone(again), tickRec(9)), stateAt(19), true)
	expectApplied(t, "seen again and again", c, impl.State{}, recs(a1, tickRec(9), a1, tickRec(9), a1, tickRec(9), a1, tickRec(9)), stateAt(36, owner("a", seenAt(27, keyNo("up", 1)))), true)
	expectApplied(t, "gone and come back", c, impl.State{}, recs(a1, a2, tickRec(10), a1, tickRec(5), a2, tickRec(5)), stateAt(20, owner("a", seenAt(15, keyNo("up", 2)))), true)
}

func TestRecordsWithoutRoomForATenant(t *testing.T) {
	c := plainConfig()
	full := stateAt(1, numberedTenants(impl.MaxTenants)...)
	expectRoom := func(what string, room bool, all ...impl.Rec) {
		t.Helper()
		want, _ := oneByOne(c, full, all)
		if got, ok := impl.ApplyRecs(c, full, all); ok != room || !sameState(got, want) {
			t.Errorf("%s: %s, %v, not %s, %v", what, told(got), ok, told(want), room)
		}
	}
	expectRoom("a new tenant", false, seriesRec("new", keyNo("up", 1)))
	expectRoom("its limit", false, limitRec("new", "", 1))
	expectRoom("room made", true, limitRec("t00003", "", -1), seriesRec("new", keyNo("up", 1)))
	expectRoom("room made for a limit", true, limitRec("t00003", "", -1), limitRec("new", "up", 1))
	expectRoom("room made for one", false, limitRec("t00003", "", -1), limitRec("new", "up", 1), limitRec("newer", "up", 1))
}

// likelyRec is mostly one that is done.
func (r *dice) likelyRec(window int) impl.Rec {
	tenant := r.pick(poolTenants...)
	switch r.below(8) {
	case 0, 1:
		return tickRec(1 + r.below(window))
	case 2:
		return limitRec(tenant, r.pick("", "up", "cpu", "é"), r.below(9)-1)
	}
	if r.below(60) == 0 {
		return impl.Rec{Kind: r.below(5), Tenant: r.pick("a", ""), Num: r.below(2)}
	}
	return seriesRec(tenant, r.pick(poolKeys()...))
}

func TestRecordsOneByOne(t *testing.T) {
	seen := map[int]int{}
	for seed := range 400 {
		r := dice(seed)
		c := plainConfig()
		c.Window, c.TenantLimit, c.MetricLimit = 1+r.below(8), 2+r.below(7), 2+r.below(4)
		s := impl.State{}
		for n := range 12 {
			var all []impl.Rec
			for range r.below(20) {
				all = append(all, r.likelyRec(c.Window))
			}
			want, wanted := oneByOne(c, s, all)
			seen[codeFor(wanted)]++
			expectApplied(t, fmt.Sprintf("seed %d, step %d", seed, n), c, s, all, want, wanted)
			if t.Failed() {
				t.FailNow()
			}
			s = want
		}
	}
	if seen[done] < 500 || seen[refused] < 500 {
		t.Errorf("%v: the test is too tame", seen)
	}
}
