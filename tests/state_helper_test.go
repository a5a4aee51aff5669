package tests

import (
	"cmp"
	"fmt"
	"slices"
	"testing"

	"loop.example/s02176/impl"
)

// plainConfig has a Window of 10 and limits that are soon reached.
func plainConfig() impl.Config {
	return impl.Config{Window: 10, TenantLimit: 4, MetricLimit: 2, Shards: 4, Hash: 0, Segment: 100}
}

// hashings gives the config with every Hash and several numbers of shards: nothing but Shards may hang on them.
func hashings(c impl.Config) []impl.Config {
	var all []impl.Config
	for _, c.Hash = range []int{0, 1, 2} {
		for _, c.Shards = range []int{1, 2, impl.MaxShards} {
			all = append(all, c)
		}
	}
	return all
}

// keyNo is the key of the n-th series of a metric.
func keyNo(name string, n int) string { return handKey(metric(name), lab("n", fmt.Sprint(n))) }

func seenAt(last int, key string) impl.Series { return impl.Series{Key: key, Last: last} }

func most(name string, limit int) impl.MetricLimit {
	return impl.MetricLimit{Metric: name, Limit: limit}
}

func stateAt(now int, tenants ...impl.Tenant) impl.State {
	return impl.State{Now: now, Tenants: tenants}
}

// filled has these series too. They are sorted here, since in a key the length of a metric comes ahead of its text.
func filled(t impl.Tenant, series ...impl.Series) impl.Tenant {
	t.Series = slices.SortedFunc(slices.Values(series), func(a, b impl.Series) int { return cmp.Compare(a.Key, b.Key) })
	return t
}

// held is a tenant with limits and no series.
func held(name string, limit int, metrics ...impl.MetricLimit) impl.Tenant {
	return impl.Tenant{Name: name, Limit: limit, Metrics: metrics}
}

// owner is a tenant without limits of its own.
func owner(name string, series ...impl.Series) impl.Tenant {
	return filled(held(name, -1), series...)
}

// three is a state with a tenant of each kind, at 20 under plainConfig.
func three() impl.State {
	return stateAt(20,
		owner("acme", seenAt(11, keyNo("up", 1)), seenAt(20, keyNo("up", 2)), seenAt(15, keyNo("cpu", 1))),
		held("beta", 0, most("cpu", 0), most("up", 1000000)),
		filled(held("gamma", 2, most("up", 1)), seenAt(14, keyNo("up", 7))),
	)
}

func numberedTenants(n int) []impl.Tenant {
	var tenants []impl.Tenant
	for i := range n {
		tenants = append(tenants, held(fmt.Sprintf("t%05d", i), 1))
	}
	return tenants
}

func sameTenant(a, b impl.Tenant) bool {
	return a.Name == b.Name && a.Limit == b.Limit && slices.Equal(a.Metrics, b.Metrics) && slices.Equal(a.Series, b.Series)
}

func sameState(a, b impl.State) bool {
	return a.Now == b.Now && slices.EqualFunc(a.Tenants, b.Tenants, sameTenant)
}

func cloneState(s impl.State) impl.State {
	s.Tenants = slices.Clone(s.Tenants)
	for i, t := range s.Tenants {
		s.Tenants[i].Metrics = slices.Clone(t.Metrics)
		s.Tenants[i].Series = slices.Clone(t.Series)
	}
	return s
}

// told is a state as a message shows it.
func told(s impl.State) string {
	if len(s.Tenants) > 20 {
		return fmt.Sprintf("%d tenants at %d", len(s.Tenants), s.Now)
	}
	return fmt.Sprintf("%q", fmt.Sprint(s))
}

// A change is one of the functions that give a state; a bool is told as done or refused, which are no verdicts.
type change func(impl.Config, impl.State) (impl.State, int)

const (
	refused = -2
	done    = -1
)

func codeFor(ok bool) int {
	if ok {
		return done
	}
	return refused
}

func ticked(by int) change {
	return func(c impl.Config, s impl.State) (impl.State, int) {
		after, ok := impl.Tick(c, s, by)
		return after, codeFor(ok)
	}
}

func limited(tenant, name string, limit int) change {
	return func(c impl.Config, s impl.State) (impl.State, int) {
		after, ok := impl.SetLimit(c, s, tenant, name, limit)
		return after, codeFor(ok)
	}
}

func sampled(tenant, key string) change {
	return func(c impl.Config, s impl.State) (impl.State, int) { return impl.Admit(c, s, tenant, key) }
}

// expectChange asks for this state and code under every hashing, and that the state handed in is as it was.
func expectChange(t *testing.T, what string, c impl.Config, s impl.State, do change, want impl.State, code int) {
	t.Helper()
	before := cloneState(s)
	for _, k := range hashings(c) {
		after, got := do(k, s)
		if got != code || !sameState(after, want) {
			t.Errorf("%s: %s, %d, not %s, %d", what, told(after), got, told(want), code)
		}
		if !impl.StateOK(k, after) {
			t.Errorf("%s: %s is not OK", what, told(after))
		}
		if !sameState(s, before) {
			t.Fatalf("%s: the argument became %s, was %s", what, told(s), told(before))
		}
	}
}

// expectUnchanged asks for the state as it was, with this code.
func expectUnchanged(t *testing.T, what string, c impl.Config, s impl.State, do change, code int) {
	t.Helper()
	expectChange(t, what, c, s, do, cloneState(s), code)
}

// expectNoState asks every function for what it answers where there is no state.
func expectNoState(t *testing.T, what string, c impl.Config, s impl.State) {
	t.Helper()
	before := cloneState(s)
	if impl.StateOK(c, s) {
		t.Errorf("%s: OK", what)
	}
	for code, dos := range map[int][]change{
		refused:         {ticked(1), ticked(0), limited("acme", "", 1), limited("acme", "up", -1), limited("", "", 1)},
		impl.VerdictBad: {sampled("acme", keyNo("up", 1)), sampled("new", keyNo("up", 1)), sampled("", "")},
	} {
		for i, do := range dos {
			if after, got := do(c, s); got != code || !sameState(after, impl.State{}) {
				t.Errorf("%s: change %d: %s, %d, not %d", what, i, told(after), got, code)
			}
		}
	}
	for _, name := range []string{"", "up"} {
		if n, limit := impl.CountOf(c, s, "acme", name); n != -1 || limit != -1 {
			t.Errorf("%s: counts of %q: %d, %d", what, name, n, limit)
		}
	}
	if shards := impl.Shards(c, s, "acme"); len(shards) != 0 {
		t.Errorf("%s: %q", what, shards)
	}
	if !sameState(s, before) {
		t.Errorf("%s: the argument became %s, was %s", what, told(s), told(before))
	}
}

// expectCount asks for a count and a limit under every hashing.
func expectCount(t *testing.T, what string, c impl.Config, s impl.State, tenant, name string, count, limit int) {
	t.Helper()
	before := cloneState(s)
	for _, k := range hashings(c) {
		if n, most := impl.CountOf(k, s, tenant, name); n != count || most != limit {
			t.Errorf("%s: %d of %d, not %d of %d", what, n, most, count, limit)
		}
	}
	if !sameState(s, before) {
		t.Errorf("%s: the argument became %s, was %s", what, told(s), told(before))
	}
}
