package tests

import (
	"fmt"
	"slices"
	"testing"

	"loop.example/s02176/impl"
)

// modelState keeps when each series was last admitted and never forgets it: what is there follows from the clock.
type modelState struct {
	config impl.Config
	now    int
	own    map[string]int
	limits map[[2]string]int
	seen   map[[2]string]int
}

func newModel(c impl.Config) *modelState {
	return &modelState{config: c, own: map[string]int{}, limits: map[[2]string]int{}, seen: map[[2]string]int{}}
}

func (m *modelState) there(tenant, key string) bool {
	last, ever := m.seen[[2]string{tenant, key}]
	return ever && m.now-last < m.config.Window
}

func (m *modelState) count(tenant, name string) int {
	n := 0
	for at := range m.seen {
		if at[0] == tenant && m.there(tenant, at[1]) && (name == "" || metricInKey(at[1]) == name) {
			n++
		}
	}
	return n
}

// metricInKey reads a key of keyNo, in which the metric comes first.
func metricInKey(key string) string {
	return key[12 : 12+int(key[10])<<8+int(key[11])]
}

func (m *modelState) limit(tenant, name string) int {
	if name == "" {
		if own, set := m.own[tenant]; set {
			return own
		}
		return m.config.TenantLimit
	}
	if own, set := m.limits[[2]string{tenant, name}]; set {
		return own
	}
	return m.config.MetricLimit
}

func (m *modelState) tick(by int) int {
	if by < 1 {
		return refused
	}
	m.now += by
	return done
}

func (m *modelState) setLimit(tenant, name string, limit int) int {
	if !slices.Contains(poolTenants, tenant) || name != "" && !slices.Contains(poolMetrics, name) || limit < -1 || limit > 1000000 {
		return refused
	}
	switch {
	case name == "" && limit == -1:
		delete(m.own, tenant)
	case name == "":
		m.own[tenant] = limit
	case limit == -1:
		delete(m.limits, [2]string{tenant, name})
	default:
		m.limits[[2]string{tenant, name}] = limit
	}
	return done
}

func (m *modelState) admit(tenant, key string) int {
	if !slices.Contains(poolTenants, tenant) || !slices.Contains(poolKeys(), key) {
		return impl.VerdictBad
	}
	verdict, name := impl.VerdictKnown, metricInKey(key)
	if !m.there(tenant, key) {
		verdict = verdictFor(m.count(tenant, ""), m.limit(tenant, ""), m.count(tenant, name), m.limit(tenant, name))
	}
	if verdict == impl.VerdictKnown || verdict == impl.VerdictNew {
		m.seen[[2]string{tenant, key}] = m.now
	}
	return verdict
}

func (m *modelState) state() impl.State {
	s := stateAt(m.now)
	for _, name := range poolTenants {
		tenant := held(name, -1)
		if own, set := m.own[name]; set {
			tenant.Limit = own
		}
		for _, of := range poolMetrics {
			if own, set := m.limits[[2]string{name, of}]; set {
				tenant.Metrics = append(tenant.Metrics, most(of, own))
			}
		}
		for _, key := range poolKeys() {
			if m.there(name, key) {
				tenant.Series = append(tenant.Series, seenAt(m.seen[[2]string{name, key}], key))
			}
		}
		if tenant.Limit != -1 || len(tenant.Metrics)+len(tenant.Series) > 0 {
			s.Tenants = append(s.Tenants, tenant)
		}
	}
	return s
}

// What the seeded runs speak of, each list sorted.
var (
	poolTenants = []string{"-", "a", "a-b", "b"}
	poolMetrics = []string{"cpu", "up", "é"}
)

func poolKeys() []string {
	var keys []string
	for _, name := range poolMetrics {
		for n := range 4 {
			keys = append(keys, keyNo(name, n))
		}
	}
	slices.Sort(keys)
	return keys
}

// step makes one change, by the program and by the model, and gives what each answers.
func (r *dice) step(m *modelState) (change, int) {
	tenant := r.pick(poolTenants...)
	if r.below(30) == 0 {
		tenant = r.pick("", "A", "a.b")
	}
	switch r.below(8) {
	case 0, 1:
		by := r.below(m.config.Window + 2)
		return ticked(by), m.tick(by)
	case 2:
		name, limit := r.pick("", "", "up", "cpu", "é", "\x01"), r.below(7)-2
		return limited(tenant, name, limit), m.setLimit(tenant, name, limit)
	}
	key := r.pick(poolKeys()...)
	if r.below(30) == 0 {
		key = r.pick("", "up", key+"x", key[1:])
	}
	return sampled(tenant, key), m.admit(tenant, key)
}

// expectModel asks that counts and shards are those of the model too.
func expectModel(t *testing.T, what string, m *modelState, s impl.State) {
	t.Helper()
	for _, tenant := range poolTenants {
		for _, name := range append(poolMetrics, "") {
			expectCount(t, what, m.config, s, tenant, name, m.count(tenant, name), m.limit(tenant, name))
		}
		var keys []string
		for _, key := range poolKeys() {
			if m.there(tenant, key) {
				keys = append(keys, key)
			}
		}
		for _, c := range hashings(m.config) {
			expectShards(t, what, c, s, tenant, shardsFor(c, keys))
		}
	}
}

func TestStatesAgainstAModel(t *testing.T) {
	seen := map[int]int{}
	for seed := range 150 {
		r := dice(seed)
		c := plainConfig()
		c.Window, c.TenantLimit, c.MetricLimit = 1+r.below(8), r.below(7), r.below(4)
		m, s := newModel(c), impl.State{}
		for n := range 50 {
			do, code := r.step(m)
			seen[code]++
			what := fmt.Sprintf("seed %d, step %d", seed, n)
			expectChange(t, what, c, s, do, m.state(), code)
			s, _ = do(c, s)
			if n%10 == 9 {
				expectModel(t, what, m, s)
			}
			if t.Failed() {
				t.FailNow()
			}
		}
	}
	expectSeen(t, seen, refused, done, impl.VerdictKnown, impl.VerdictNew, impl.VerdictTenant, impl.VerdictMetric, impl.VerdictBad)
}
