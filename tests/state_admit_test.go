package tests

import (
	"fmt"
	"testing"

	"loop.example/s02176/impl"
)

func TestAdmitOfAKnownSeries(t *testing.T) {
	c := plainConfig()
	s := three()
	want := cloneState(s)
	want.Tenants[0].Series[0].Last = 20
	expectChange(t, "seen again", c, s, sampled("acme", keyNo("up", 1)), want, impl.VerdictKnown)
	expectChange(t, "seen at this moment", c, s, sampled("acme", keyNo("up", 2)), s, impl.VerdictKnown)
	want = cloneState(s)
	want.Tenants[2].Series[0].Last = 20
	expectChange(t, "at its limits", c, s, sampled("gamma", keyNo("up", 7)), want, impl.VerdictKnown)
	full := stateAt(3, filled(held("a", 0, most("up", 0)), seenAt(1, keyNo("up", 1)), seenAt(1, keyNo("up", 2))))
	want = stateAt(3, filled(held("a", 0, most("up", 0)), seenAt(1, keyNo("up", 1)), seenAt(3, keyNo("up", 2))))
	expectChange(t, "above its limits", c, full, sampled("a", keyNo("up", 2)), want, impl.VerdictKnown)
}

func TestAdmitOfANewSeries(t *testing.T) {
	c := plainConfig()
	now := func(key string) impl.Series { return seenAt(20, key) }
	s := stateAt(20, owner("b", seenAt(12, keyNo("up", 5))))
	had := s.Tenants[0].Series[0]
	expectChange(t, "ahead", c, s, sampled("b", keyNo("up", 1)), stateAt(20, owner("b", now(keyNo("up", 1)), had)), impl.VerdictNew)
	expectChange(t, "behind", c, s, sampled("b", keyNo("up", 9)), stateAt(20, owner("b", had, now(keyNo("up", 9)))), impl.VerdictNew)
	expectChange(t, "another metric", c, s, sampled("b", keyNo("cpu", 5)), stateAt(20, owner("b", had, now(keyNo("cpu", 5)))), impl.VerdictNew)
	expectChange(t, "a tenant ahead", c, s, sampled("a", keyNo("up", 5)), stateAt(20, owner("a", now(keyNo("up", 5))), s.Tenants[0]), impl.VerdictNew)
	expectChange(t, "a tenant behind", c, s, sampled("c", keyNo("up", 5)), stateAt(20, s.Tenants[0], owner("c", now(keyNo("up", 5)))), impl.VerdictNew)
	expectChange(t, "no tenants", c, impl.State{}, sampled("c", keyNo("up", 5)), stateAt(0, owner("c", seenAt(0, keyNo("up", 5)))), impl.VerdictNew)
	expectChange(t, "a tenant with limits alone", c, stateAt(20, held("b", 3, most("up", 2))), sampled("b", keyNo("up", 5)), stateAt(20, filled(held("b", 3, most("up", 2)), now(keyNo("up", 5)))), impl.VerdictNew)
	for _, name := range tenantNames() {
		expectChange(t, "the tenant "+name, c, impl.State{}, sampled(name, keyNo("up", 1)), stateAt(0, owner(name, seenAt(0, keyNo("up", 1)))), impl.VerdictNew)
	}
	for i, labels := range canonicals() {
		key := handKey(labels...)
		expectChange(t, fmt.Sprint("key ", i), c, impl.State{}, sampled("a", key), stateAt(0, owner("a", seenAt(0, key))), impl.VerdictNew)
	}
}

// some is n series of a metric, seen at 1.
func some(name string, n int) []impl.Series {
	var series []impl.Series
	for i := range n {
		series = append(series, seenAt(1, keyNo(name, i)))
	}
	return series
}

// expectVerdict asks Admit for one more series of up, with others of up and of cpu there.
func expectVerdict(t *testing.T, c impl.Config, own impl.Tenant, ups, cpus, verdict int) {
	t.Helper()
	what := fmt.Sprintf("%d and %d under %+v and %+v", ups, cpus, own, c)
	tenant := filled(own, append(some("up", ups), some("cpu", cpus)...)...)
	s, after := stateAt(1), stateAt(1)
	if own.Limit >= 0 || len(own.Metrics) > 0 || ups+cpus > 0 {
		s.Tenants = []impl.Tenant{tenant}
	}
	after.Tenants = s.Tenants
	if verdict == impl.VerdictNew {
		after.Tenants = []impl.Tenant{filled(own, append(tenant.Series, seenAt(1, keyNo("up", 9)))...)}
	}
	expectChange(t, what, c, s, sampled("a", keyNo("up", 9)), after, verdict)
}

// verdictFor is what the document says of counts and limits.
func verdictFor(count, limit, ofMetric, limitOfMetric int) int {
	switch {
	case count >= limit:
		return impl.VerdictTenant
	case ofMetric >= limitOfMetric:
		return impl.VerdictMetric
	}
	return impl.VerdictNew
}

// Each limit is met one below it, at it and one above it, by the config's limits and by a tenant's own.
func TestAdmitAtTheLimits(t *testing.T) {
	seen := map[int]int{}
	for limit := range 4 {
		for limitOfMetric := range 4 {
			for ups := range 5 {
				for cpus := range 3 {
					verdict := verdictFor(ups+cpus, limit, ups, limitOfMetric)
					seen[verdict]++
					c := plainConfig()
					c.TenantLimit, c.MetricLimit = limit, limitOfMetric
					expectVerdict(t, c, held("a", -1), ups, cpus, verdict)
					expectVerdict(t, c, held("a", -1, most("cpu", 0), most("uq", 9)), ups, cpus, verdict)
					c.TenantLimit, c.MetricLimit = 9-limit, 9-limitOfMetric
					expectVerdict(t, c, held("a", limit, most("up", limitOfMetric)), ups, cpus, verdict)
					c.MetricLimit = limitOfMetric
					expectVerdict(t, c, held("a", limit), ups, cpus, verdict)
					c.TenantLimit, c.MetricLimit = limit, 0
					expectVerdict(t, c, held("a", -1, most("up", limitOfMetric)), ups, cpus, verdict)
				}
			}
		}
	}
	expectSeen(t, seen, impl.VerdictNew, impl.VerdictTenant, impl.VerdictMetric)
}

// Other tenants' series and limits don't count.
func TestAdmitCountsOneTenantAlone(t *testing.T) {
	c := plainConfig()
	c.TenantLimit, c.MetricLimit = 1, 1
	b := filled(held("b", 0, most("up", 0)), some("up", 5)...)
	s := stateAt(1, b)
	expectChange(t, "another tenant", c, s, sampled("a", keyNo("up", 1)), stateAt(1, owner("a", seenAt(1, keyNo("up", 1))), b), impl.VerdictNew)
	expectUnchanged(t, "that tenant", c, s, sampled("b", keyNo("up", 7)), impl.VerdictTenant)
}

func TestAdmitThatIsRefused(t *testing.T) {
	c := plainConfig()
	for _, s := range []impl.State{{}, three(), stateAt(20, held("acme", 0, most("up", 0)))} {
		for _, name := range notTenantNames() {
			expectUnchanged(t, fmt.Sprintf("the tenant %q", name), c, s, sampled(name, keyNo("up", 1)), impl.VerdictBad)
		}
		for what, key := range notKeys() {
			expectUnchanged(t, "no key: "+what, c, s, sampled("acme", key), impl.VerdictBad)
			expectUnchanged(t, "no key and no tenant: "+what, c, s, sampled("new", key), impl.VerdictBad)
			expectUnchanged(t, "neither: "+what, c, s, sampled("", key), impl.VerdictBad)
		}
	}
}

func TestAdmitWithMaxTenants(t *testing.T) {
	c := plainConfig()
	full := stateAt(5, numberedTenants(impl.MaxTenants)...)
	full.Tenants[4] = filled(held("t00004", 3), seenAt(1, keyNo("up", 1)))
	expectUnchanged(t, "one more", c, full, sampled("a", keyNo("up", 1)), impl.VerdictTenant)
	expectUnchanged(t, "no tenant name", c, full, sampled("A", keyNo("up", 1)), impl.VerdictBad)
	expectUnchanged(t, "no key", c, full, sampled("a", "up"), impl.VerdictBad)
	want := cloneState(full)
	want.Tenants[3].Series = []impl.Series{seenAt(5, keyNo("up", 1))}
	expectChange(t, "one of them", c, full, sampled("t00003", keyNo("up", 1)), want, impl.VerdictNew)
	want = cloneState(full)
	want.Tenants[4].Series[0].Last = 5
	expectChange(t, "a known one", c, full, sampled("t00004", keyNo("up", 1)), want, impl.VerdictKnown)
	less := stateAt(5, full.Tenants[1:]...)
	want = stateAt(5, append([]impl.Tenant{owner("a", seenAt(5, keyNo("up", 1)))}, less.Tenants...)...)
	expectChange(t, "the last that has room", c, less, sampled("a", keyNo("up", 1)), want, impl.VerdictNew)
	c.TenantLimit, c.MetricLimit = 1, 0
	expectUnchanged(t, "one more, with no room for the metric", c, full, sampled("a", keyNo("up", 1)), impl.VerdictTenant)
	expectUnchanged(t, "room for the tenant, none for the metric", c, less, sampled("a", keyNo("up", 1)), impl.VerdictMetric)
}
