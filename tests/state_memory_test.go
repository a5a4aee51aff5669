package tests

import (
	"fmt"
	"slices"
	"testing"

	"loop.example/s02176/impl"
)

func withRoom[T any](items []T) []T {
	return append(make([]T, 0, len(items)+4), items...)
}

// roomyState has spare room behind each list, where a careless append would write into the argument.
func roomyState(s impl.State) impl.State {
	s.Tenants = withRoom(s.Tenants)
	for i, t := range s.Tenants {
		s.Tenants[i].Metrics = withRoom(t.Metrics)
		s.Tenants[i].Series = withRoom(t.Series)
	}
	return s
}

func clean[T comparable](items []T) bool {
	var zero T
	return !slices.ContainsFunc(items[len(items):cap(items)], func(item T) bool { return item != zero })
}

// expectStateUntouched asks that the state and the room behind its lists are as roomyState made them.
func expectStateUntouched(t *testing.T, what string, s, want impl.State) {
	t.Helper()
	if !sameState(s, want) {
		t.Errorf("%s: the argument became %s, was %s", what, told(s), told(want))
	}
	for _, spare := range s.Tenants[len(s.Tenants):cap(s.Tenants)] {
		if !sameTenant(spare, impl.Tenant{}) {
			t.Errorf("%s: the spare room of the argument has %v", what, spare)
		}
	}
	for _, tenant := range s.Tenants {
		if !clean(tenant.Metrics) || !clean(tenant.Series) {
			t.Errorf("%s: the spare room of %s is written to", what, tenant.Name)
		}
	}
}

func scribble[T any](items []T, with T) {
	items = items[:cap(items)]
	for i := range items {
		items[i] = with
	}
}

func scribbleState(s impl.State) {
	for _, tenant := range s.Tenants {
		scribble(tenant.Metrics, most("scribble", 77))
		scribble(tenant.Series, seenAt(77, "scribble"))
	}
	scribble(s.Tenants, held("scribble", 77))
}

// scribbleApart writes over one list after another, and asks that the others stay as they were.
func scribbleApart(t *testing.T, what string, s impl.State) {
	t.Helper()
	for i := range s.Tenants {
		want := cloneState(s)
		scribble(s.Tenants[i].Metrics, most("scribble", 77))
		scribble(want.Tenants[i].Metrics[:len(want.Tenants[i].Metrics):len(want.Tenants[i].Metrics)], most("scribble", 77))
		scribble(s.Tenants[i].Series, seenAt(77, "scribble"))
		scribble(want.Tenants[i].Series[:len(want.Tenants[i].Series):len(want.Tenants[i].Series)], seenAt(77, "scribble"))
		if !sameState(s, want) {
			t.Errorf("%s: two lists share memory: %s, not %s", what, told(s), told(want))
		}
	}
}

// allChanges are changes of three that are made, and some that are refused.
func allChanges() []change {
	return []change{
		ticked(1), ticked(5), ticked(100), ticked(0),
		limited("acme", "", 3), limited("acme", "up", 3), limited("beta", "cpu", -1), limited("new", "", 3), limited("aa", "up", 0), limited("", "", 3),
		sampled("acme", keyNo("up", 1)), sampled("acme", keyNo("mem", 1)), sampled("acme", keyNo("up", 3)), sampled("beta", keyNo("mem", 1)), sampled("new", keyNo("up", 1)), sampled("aa", keyNo("up", 1)), sampled("acme", ""),
	}
}

func TestChangesShareNoMemory(t *testing.T) {
	c := plainConfig()
	for i, do := range allChanges() {
		what := fmt.Sprint("change ", i)
		s := roomyState(three())
		after, code := do(c, s)
		expectStateUntouched(t, what, s, three())
		kept := cloneState(after)
		scribbleState(after)
		expectStateUntouched(t, what+", a scribble into the answer", s, three())
		again, code2 := do(c, s)
		if !sameState(again, kept) || code2 != code {
			t.Errorf("%s: %s, %d, was %s, %d", what, told(again), code2, told(kept), code)
		}
		scribbleState(s)
		if !sameState(again, kept) {
			t.Errorf("%s: the answer became %s", what, told(again))
		}
		scribbleApart(t, what, again)
	}
}

func TestLookingAtAStateChangesNothing(t *testing.T) {
	for _, c := range hashings(plainConfig()) {
		s := roomyState(three())
		impl.StateOK(c, s)
		impl.CountOf(c, s, "acme", "up")
		first := impl.Shards(c, s, "acme")
		kept := slices.Clone(first)
		for i := range kept {
			kept[i] = slices.Clone(kept[i])
		}
		for i := range first {
			scribble(first[i], "scribble")
			for j := i + 1; j < len(first); j++ {
				if !slices.Equal(first[j], kept[j]) {
					t.Errorf("two lists share memory: %q, not %q", first[j], kept[j])
				}
			}
		}
		scribble(first, []string{"scribble"})
		expectStateUntouched(t, "looking", s, three())
		expectShards(t, "again", c, s, "acme", kept)
	}
}
