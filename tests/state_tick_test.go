package tests

import (
	"fmt"
	"math"
	"testing"

	"loop.example/s02176/impl"
)

func TestTickLeavesOutWhatHasExpired(t *testing.T) {
	c := plainConfig()
	one, two, third, seven := keyNo("up", 1), keyNo("up", 2), keyNo("cpu", 1), keyNo("up", 7)
	beta := held("beta", 0, most("cpu", 0), most("up", 1000000))
	kept := held("gamma", 2, most("up", 1))
	gamma := filled(kept, seenAt(14, seven))
	for by, want := range map[int]impl.State{
		1:  stateAt(21, owner("acme", seenAt(20, two), seenAt(15, third)), beta, gamma),
		3:  stateAt(23, owner("acme", seenAt(20, two), seenAt(15, third)), beta, gamma),
		4:  stateAt(24, owner("acme", seenAt(20, two), seenAt(15, third)), beta, kept),
		5:  stateAt(25, owner("acme", seenAt(20, two)), beta, kept),
		9:  stateAt(29, owner("acme", seenAt(20, two)), beta, kept),
		10: stateAt(30, beta, kept),
		11: stateAt(31, beta, kept),

		impl.MaxClock - 20: stateAt(impl.MaxClock, beta, kept),
	} {
		expectChange(t, fmt.Sprint("by ", by), c, three(), ticked(by), want, done)
	}
	if one >= two || two >= third {
		t.Error("the keys are not in order")
	}
}

func TestTickAtTheEdgeOfAWindow(t *testing.T) {
	key := keyNo("up", 1)
	for _, window := range []int{1, 2, 10, impl.MaxWindow} {
		c := plainConfig()
		c.Window = window
		s := stateAt(7, owner("a", seenAt(7, key)))
		if window > 1 {
			expectChange(t, fmt.Sprint("one below ", window), c, s, ticked(window-1), stateAt(6+window, owner("a", seenAt(7, key))), done)
		}
		expectChange(t, fmt.Sprint("at ", window), c, s, ticked(window), stateAt(7+window), done)
		expectChange(t, fmt.Sprint("beyond ", window), c, s, ticked(window+1), stateAt(8+window), done)
	}
}

func TestTickUpToTheEndOfTheClock(t *testing.T) {
	c := plainConfig()
	key := keyNo("up", 1)
	s := stateAt(impl.MaxClock-3, owner("a", seenAt(impl.MaxClock-3, key)))
	for by := range 3 {
		expectChange(t, fmt.Sprint("by ", by+1), c, s, ticked(by+1), stateAt(impl.MaxClock-2+by, owner("a", seenAt(impl.MaxClock-3, key))), done)
	}
	for _, by := range []int{4, 5, impl.MaxClock, math.MaxInt, math.MaxInt - impl.MaxClock, 0, -1, -4, math.MinInt} {
		expectUnchanged(t, fmt.Sprint("by ", by), c, s, ticked(by), refused)
		expectUnchanged(t, fmt.Sprint("at the end by ", by), c, stateAt(impl.MaxClock, held("a", 1)), ticked(by), refused)
	}
	expectUnchanged(t, "at the end by 1", c, stateAt(impl.MaxClock), ticked(1), refused)
	expectChange(t, "from the beginning", c, impl.State{}, ticked(impl.MaxClock), stateAt(impl.MaxClock), done)
	expectUnchanged(t, "from the beginning and 1", c, impl.State{}, ticked(impl.MaxClock+1), refused)
	expectUnchanged(t, "by 0", c, three(), ticked(0), refused)
}

// Many series in every order of their last sights: a heap that isn't one shows here.
func TestTickLeavesOutInTheOrderOfSights(t *testing.T) {
	c := plainConfig()
	c.Window = 60
	for seed := range 40 {
		r := dice(seed)
		lasts := map[int]int{}
		for i := range r.below(50) {
			lasts[i] = 1 + r.below(60)
		}
		for now := 60; now <= 120; now += 1 + r.below(7) {
			begin, want := owner("a"), owner("a")
			for i, last := range lasts {
				begin = filled(begin, append(begin.Series, seenAt(last, keyNo("up", i)))...)
				if now-last < 60 {
					want = filled(want, append(want.Series, seenAt(last, keyNo("up", i)))...)
				}
			}
			s, after := stateAt(60, begin, held("b", 1)), stateAt(now, want, held("b", 1))
			if len(begin.Series) == 0 {
				s.Tenants = s.Tenants[1:]
			}
			if len(want.Series) == 0 {
				after.Tenants = after.Tenants[1:]
			}
			if now > 60 {
				expectChange(t, fmt.Sprintf("seed %d up to %d", seed, now), c, s, ticked(now-60), after, done)
			}
		}
	}
}

// A series is there from its first admission on, as long as no Window has passed since it was last seen.
func TestASeriesIsThereWhileItIsSeen(t *testing.T) {
	c := plainConfig()
	key := keyNo("up", 1)
	s := impl.State{}
	step := func(what string, do change, want impl.State, code int) {
		t.Helper()
		expectChange(t, what, c, s, do, want, code)
		s, _ = do(c, s)
	}
	step("first", sampled("a", key), stateAt(0, owner("a", seenAt(0, key))), impl.VerdictNew)
	step("nine later", ticked(9), stateAt(9, owner("a", seenAt(0, key))), done)
	step("seen in time", sampled("a", key), stateAt(9, owner("a", seenAt(9, key))), impl.VerdictKnown)
	step("nine later again", ticked(9), stateAt(18, owner("a", seenAt(9, key))), done)
	step("seen again", sampled("a", key), stateAt(18, owner("a", seenAt(18, key))), impl.VerdictKnown)
	step("and at the same time", sampled("a", key), stateAt(18, owner("a", seenAt(18, key))), impl.VerdictKnown)
	step("by small steps", ticked(4), stateAt(22, owner("a", seenAt(18, key))), done)
	step("to the last moment", ticked(5), stateAt(27, owner("a", seenAt(18, key))), done)
	step("one more", ticked(1), stateAt(28), done)
	step("not in time", sampled("a", key), stateAt(28, owner("a", seenAt(28, key))), impl.VerdictNew)
	step("in one step", ticked(10), stateAt(38), done)
}

// What has expired counts no more, for the tenant and for the metric.
func TestWhatHasExpiredMakesRoom(t *testing.T) {
	c := plainConfig()
	s := stateAt(9, owner("a", seenAt(0, keyNo("up", 1)), seenAt(5, keyNo("up", 2)), seenAt(0, keyNo("cpu", 1)), seenAt(9, keyNo("mem", 1))))
	expectUnchanged(t, "the tenant is full", c, s, sampled("a", keyNo("up", 3)), impl.VerdictTenant)
	s, _ = impl.Tick(c, s, 1)
	expectCount(t, "all", c, s, "a", "", 2, 4)
	expectCount(t, "up", c, s, "a", "up", 1, 2)
	expectCount(t, "cpu", c, s, "a", "cpu", 0, 2)
	expectChange(t, "room for up", c, s, sampled("a", keyNo("up", 3)), stateAt(10, owner("a", seenAt(5, keyNo("up", 2)), seenAt(10, keyNo("up", 3)), seenAt(9, keyNo("mem", 1)))), impl.VerdictNew)
}

func TestTickWithMaxTenants(t *testing.T) {
	c := plainConfig()
	c.Window = 1
	tenants := numberedTenants(impl.MaxTenants)
	for i := range tenants {
		tenants[i].Limit = -1
		tenants[i].Series = []impl.Series{seenAt(5, keyNo("up", i))}
	}
	tenants[77].Limit = 3
	want := tenants[77]
	want.Series = nil
	expectChange(t, "all but one", c, stateAt(5, tenants...), ticked(1), stateAt(6, want), done)
}
