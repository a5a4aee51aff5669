package tests

import (
	"fmt"
	"math"
	"testing"

	"loop.example/s02176/impl"
)

func TestLimitOfATenant(t *testing.T) {
	c := plainConfig()
	key := keyNo("up", 1)
	s := stateAt(5, owner("b", seenAt(5, key)))
	limitedTo := func(n int) impl.State { return stateAt(5, filled(held("b", n), seenAt(5, key))) }
	for _, n := range []int{0, 1, 7, impl.MaxLimit - 1, impl.MaxLimit} {
		expectChange(t, fmt.Sprint("set to ", n), c, s, limited("b", "", n), limitedTo(n), done)
		expectChange(t, fmt.Sprint("set again to ", n), c, limitedTo(3), limited("b", "", n), limitedTo(n), done)
		expectChange(t, fmt.Sprint("taken away from ", n), c, limitedTo(n), limited("b", "", -1), s, done)
	}
	expectChange(t, "the same again", c, limitedTo(3), limited("b", "", 3), limitedTo(3), done)
	expectChange(t, "none taken away", c, s, limited("b", "", -1), s, done)
}

func TestLimitOfAMetric(t *testing.T) {
	c := plainConfig()
	with := func(limits ...impl.MetricLimit) impl.State { return stateAt(5, held("b", 9, limits...)) }
	for _, n := range []int{0, 1, impl.MaxLimit - 1, impl.MaxLimit} {
		expectChange(t, fmt.Sprint("the first to ", n), c, with(), limited("b", "up", n), with(most("up", n)), done)
		expectChange(t, fmt.Sprint("again to ", n), c, with(most("cpu", 3), most("up", 3)), limited("b", "up", n), with(most("cpu", 3), most("up", n)), done)
		expectChange(t, fmt.Sprint("ahead to ", n), c, with(most("up", 3)), limited("b", "cpu", n), with(most("cpu", n), most("up", 3)), done)
		expectChange(t, fmt.Sprint("behind to ", n), c, with(most("cpu", 3)), limited("b", "up", n), with(most("cpu", 3), most("up", n)), done)
		expectChange(t, fmt.Sprint("between to ", n), c, with(most("cpu", 3), most("up", 3)), limited("b", "mem", n), with(most("cpu", 3), most("mem", n), most("up", 3)), done)
		expectChange(t, fmt.Sprint("taken away from ", n), c, with(most("cpu", 3), most("up", n)), limited("b", "up", -1), with(most("cpu", 3)), done)
	}
	expectChange(t, "none taken away", c, with(most("up", 3)), limited("b", "cpu", -1), with(most("up", 3)), done)
	expectChange(t, "the last taken away", c, with(most("up", 3)), limited("b", "up", -1), with(), done)
	for _, name := range metricNames() {
		expectChange(t, fmt.Sprintf("of %q", name), c, with(), limited("b", name, 2), with(most(name, 2)), done)
		expectChange(t, fmt.Sprintf("of %q taken away", name), c, with(most(name, 2)), limited("b", name, -1), with(), done)
	}
}

func TestLimitOfATenantThatIsNotThere(t *testing.T) {
	c := plainConfig()
	s := stateAt(5, held("b", 1))
	expectChange(t, "ahead", c, s, limited("a", "", 0), stateAt(5, held("a", 0), held("b", 1)), done)
	expectChange(t, "behind", c, s, limited("c", "", 0), stateAt(5, held("b", 1), held("c", 0)), done)
	expectChange(t, "a metric's", c, s, limited("c", "up", 0), stateAt(5, held("b", 1), held("c", -1, most("up", 0))), done)
	expectChange(t, "none at all", c, s, limited("c", "", -1), s, done)
	expectChange(t, "no metric's", c, s, limited("c", "up", -1), s, done)
	expectChange(t, "in a state without tenants", c, impl.State{}, limited("c", "", 8), stateAt(0, held("c", 8)), done)
	for _, name := range tenantNames() {
		expectChange(t, fmt.Sprintf("of %q", name), c, impl.State{}, limited(name, "", 8), stateAt(0, held(name, 8)), done)
	}
}

func TestLimitsTakenAwayLeaveNoIdleTenant(t *testing.T) {
	c := plainConfig()
	key := keyNo("up", 1)
	other := held("a", 1)
	expectChange(t, "its own", c, stateAt(5, other, held("b", 1)), limited("b", "", -1), stateAt(5, other), done)
	expectChange(t, "its metric's", c, stateAt(5, other, held("b", -1, most("up", 1))), limited("b", "up", -1), stateAt(5, other), done)
	expectChange(t, "its own, with a metric's", c, stateAt(5, held("b", 1, most("up", 1))), limited("b", "", -1), stateAt(5, held("b", -1, most("up", 1))), done)
	expectChange(t, "its metric's, with its own", c, stateAt(5, held("b", 1, most("up", 1))), limited("b", "up", -1), stateAt(5, held("b", 1)), done)
	expectChange(t, "one metric's of two", c, stateAt(5, held("b", -1, most("cpu", 1), most("up", 1))), limited("b", "up", -1), stateAt(5, held("b", -1, most("cpu", 1))), done)
	expectChange(t, "its own, with a series", c, stateAt(5, filled(held("b", 1), seenAt(5, key))), limited("b", "", -1), stateAt(5, owner("b", seenAt(5, key))), done)
	expectChange(t, "its metric's, with a series", c, stateAt(5, filled(held("b", -1, most("up", 1)), seenAt(5, key))), limited("b", "up", -1), stateAt(5, owner("b", seenAt(5, key))), done)
}

func TestLimitsBelowWhatIsThere(t *testing.T) {
	c := plainConfig()
	series := []impl.Series{seenAt(1, keyNo("up", 1)), seenAt(2, keyNo("up", 2)), seenAt(3, keyNo("cpu", 1))}
	s := stateAt(5, owner("b", series...))
	expectChange(t, "the tenant's", c, s, limited("b", "", 1), stateAt(5, filled(held("b", 1), series...)), done)
	expectChange(t, "the tenant's to 0", c, s, limited("b", "", 0), stateAt(5, filled(held("b", 0), series...)), done)
	expectChange(t, "the metric's", c, s, limited("b", "up", 0), stateAt(5, filled(held("b", -1, most("up", 0)), series...)), done)
	s, _ = impl.SetLimit(c, s, "b", "", 0)
	expectCount(t, "above its limit", c, s, "b", "", 3, 0)
	expectChange(t, "seen above its limit", c, s, sampled("b", keyNo("up", 1)), stateAt(5, filled(held("b", 0), seenAt(5, keyNo("up", 1)), series[1], series[2])), impl.VerdictKnown)
}

func TestLimitsThatAreRefused(t *testing.T) {
	c := plainConfig()
	for _, s := range []impl.State{{}, three(), stateAt(impl.MaxClock, held("a", 1))} {
		for _, name := range notTenantNames() {
			expectUnchanged(t, fmt.Sprintf("the tenant %q", name), c, s, limited(name, "", 1), refused)
			expectUnchanged(t, fmt.Sprintf("the tenant %q, a metric's", name), c, s, limited(name, "up", -1), refused)
		}
		for _, name := range notMetricNames() {
			expectUnchanged(t, fmt.Sprintf("the metric %q", name), c, s, limited("acme", name, 1), refused)
			expectUnchanged(t, fmt.Sprintf("the metric %q taken away", name), c, s, limited("new", name, -1), refused)
		}
		for _, n := range []int{-2, impl.MaxLimit + 1, math.MinInt, math.MaxInt} {
			for _, name := range []string{"acme", "gamma", "new"} {
				expectUnchanged(t, fmt.Sprint("a limit of ", n), c, s, limited(name, "", n), refused)
				expectUnchanged(t, fmt.Sprint("a metric's limit of ", n), c, s, limited(name, "up", n), refused)
			}
		}
	}
}

func TestLimitsWithMaxTenants(t *testing.T) {
	c := plainConfig()
	full := stateAt(5, numberedTenants(impl.MaxTenants)...)
	expectUnchanged(t, "one more", c, full, limited("a", "", 1), refused)
	expectUnchanged(t, "one more, a metric's", c, full, limited("z", "up", 0), refused)
	expectUnchanged(t, "one more that is idle", c, full, limited("a", "", -1), done)
	expectUnchanged(t, "one more that is idle, a metric's", c, full, limited("a", "up", -1), done)
	want := cloneState(full)
	want.Tenants[3].Limit = 8
	expectChange(t, "one of them", c, full, limited("t00003", "", 8), want, done)
	want.Tenants[3] = held("t00003", 1, most("up", 0))
	expectChange(t, "a metric of one of them", c, full, limited("t00003", "up", 0), want, done)
	less := stateAt(5, full.Tenants[1:]...)
	expectChange(t, "one becomes idle", c, full, limited("t00000", "", -1), less, done)
	expectChange(t, "the last that has room", c, less, limited("t00000", "", 1), full, done)
}
