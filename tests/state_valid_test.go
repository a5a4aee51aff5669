package tests

import (
	"fmt"
	"math"
	"strings"
	"testing"

	"loop.example/s02176/impl"
)

// field is one number of a config, with the range that is OK.
type field struct {
	name        string
	at          func(*impl.Config) *int
	least, most int
}

func fields() []field {
	return []field{
		{"Window", func(c *impl.Config) *int { return &c.Window }, 1, 1000000000},
		{"TenantLimit", func(c *impl.Config) *int { return &c.TenantLimit }, 0, 1000000},
		{"MetricLimit", func(c *impl.Config) *int { return &c.MetricLimit }, 0, 1000000},
		{"Shards", func(c *impl.Config) *int { return &c.Shards }, 1, 64},
		{"Hash", func(c *impl.Config) *int { return &c.Hash }, 0, 2},
		{"Segment", func(c *impl.Config) *int { return &c.Segment }, 100, 1000000},
	}
}

func TestConfigAtItsEdges(t *testing.T) {
	s := stateAt(20, owner("acme", seenAt(20, keyNo("up", 1))))
	for _, f := range fields() {
		c := plainConfig()
		for _, *f.at(&c) = range []int{f.least, f.least + 1, (f.least + f.most) / 2, f.most - 1, f.most} {
			if !impl.ConfigOK(c) || !impl.StateOK(c, s) {
				t.Errorf("%s: %+v is not OK", f.name, c)
			}
		}
		for _, *f.at(&c) = range []int{f.least - 1, f.most + 1, -f.most, -f.most - 1, math.MinInt, math.MinInt + 1, math.MaxInt} {
			if impl.ConfigOK(c) {
				t.Errorf("%s: %+v is OK", f.name, c)
			}
			expectNoState(t, fmt.Sprintf("%s: %+v", f.name, c), c, s)
			expectNoState(t, fmt.Sprintf("%s: %+v and no state", f.name, c), c, impl.State{})
		}
	}
	if impl.ConfigOK(impl.Config{}) {
		t.Error("the zero config is OK")
	}
	if !impl.ConfigOK(impl.Config{Window: 1, Shards: 1, Segment: 100}) {
		t.Error("the least config is not OK")
	}
}

func tenantNames() []string {
	return []string{"a", "z", "0", "9", "-", "a-b", "--", strings.Repeat("n", impl.MaxTenant), "azm059-"}
}

func notTenantNames() []string {
	return []string{"", "A", "Z", "a.b", ".", "_", "a b", " a", "a ", "a\x00", "a\n", "é", "\xff", "a/b", "`", "{", ":", "/", ",", strings.Repeat("n", impl.MaxTenant+1), strings.Repeat("n", 1000)}
}

func metricNames() []string {
	return []string{"u", "up", "A b", " ", "é", "\ufffd", "~", "\u00a0", "__name__", strings.Repeat("m", impl.MaxValue), strings.Repeat("\U0010ffff", impl.MaxValue)}
}

// notMetricNames are texts that are neither empty nor metric names.
func notMetricNames() []string {
	return []string{"\x00", "up\x1f", "\x7f", "\u0080", "a\u009fb", "\xff", "up\xc3", "\xed\xa0\x80", "\xc0\x80", strings.Repeat("m", impl.MaxValue+1), strings.Repeat("é", impl.MaxValue+1), "a\n"}
}

func notKeys() map[string]string {
	all := map[string]string{
		"empty": "", "a text": "up", "no labels": "\x00", "a beginning": keyNo("up", 1)[:8],
		"a key and more": keyNo("up", 1) + "x", "a key cut": keyNo("up", 1)[:len(keyNo("up", 1))-1],
	}
	for what, labels := range uncanonicals() {
		all[what] = handKey(labels...)
	}
	return all
}

func okStates() map[string]impl.State {
	all := map[string]impl.State{
		"zero":                 {},
		"empty lists":          {Tenants: []impl.Tenant{}},
		"three":                three(),
		"the last moment":      stateAt(impl.MaxClock),
		"one below it":         stateAt(impl.MaxClock - 1),
		"seen now":             stateAt(20, owner("a", seenAt(20, keyNo("up", 1)))),
		"seen in the Window":   stateAt(20, owner("a", seenAt(11, keyNo("up", 1)))),
		"seen at 0":            stateAt(0, owner("a", seenAt(0, keyNo("up", 1)))),
		"seen at 0, at 9":      stateAt(9, owner("a", seenAt(0, keyNo("up", 1)))),
		"seen at the end":      stateAt(impl.MaxClock, owner("a", seenAt(impl.MaxClock, keyNo("up", 1)))),
		"a limit of 0":         stateAt(1, held("a", 0)),
		"the greatest limit":   stateAt(1, held("a", impl.MaxLimit)),
		"a metric's limit":     stateAt(1, held("a", -1, most("up", 0))),
		"its greatest":         stateAt(1, held("a", -1, most("up", impl.MaxLimit))),
		"sorted by bytes":      stateAt(1, held("-", 1), held("0", 1), held("a", 1), held("a-", 1), held("aa", 1), held("b", 1)),
		"metrics by bytes":     stateAt(1, held("a", 1, most(" ", 1), most("A", 1), most("a", 1), most("aa", 1), most("b", 1), most("é", 1))),
		"more than its limits": stateAt(1, filled(held("a", 0, most("up", 0)), seenAt(1, keyNo("up", 1)), seenAt(1, keyNo("up", 2)))),
		"more than the config": stateAt(1, owner("a", seenAt(1, keyNo("up", 1)), seenAt(1, keyNo("up", 2)), seenAt(1, keyNo("up", 3)), seenAt(1, keyNo("up", 4)), seenAt(1, keyNo("up", 5)))),
		"the same series":      stateAt(1, owner("a", seenAt(1, keyNo("up", 1))), owner("b", seenAt(1, keyNo("up", 1)))),
		"MaxTenants":           stateAt(1, numberedTenants(impl.MaxTenants)...),
	}
	for _, name := range tenantNames() {
		all["the tenant "+name] = stateAt(1, held(name, 1))
	}
	for _, name := range metricNames() {
		all["the metric "+name] = stateAt(1, held("a", -1, most(name, 1)))
	}
	for i, labels := range canonicals() {
		all[fmt.Sprint("key ", i)] = stateAt(1, owner("a", seenAt(1, handKey(labels...))))
	}
	return all
}

// unsorted has its series in the order they stand in.
func unsorted(series ...impl.Series) impl.Tenant {
	return impl.Tenant{Name: "a", Limit: -1, Series: series}
}

// notOKStates breaks one condition each.
func notOKStates() map[string]impl.State {
	one := seenAt(1, keyNo("up", 1))
	all := map[string]impl.State{
		"Now below 0":            stateAt(-1),
		"Now far below 0":        stateAt(math.MinInt),
		"Now too great":          stateAt(impl.MaxClock + 1),
		"Now far too great":      stateAt(math.MaxInt),
		"too many tenants":       stateAt(1, numberedTenants(impl.MaxTenants+1)...),
		"tenants out of order":   stateAt(1, held("b", 1), held("a", 1)),
		"the last out of order":  stateAt(1, held("a", 1), held("c", 1), held("b", 1)),
		"a tenant twice":         stateAt(1, held("a", 1), held("a", 2)),
		"a limit below -1":       stateAt(1, filledTo(-2)),
		"a limit far below":      stateAt(1, filledTo(math.MinInt)),
		"a limit too great":      stateAt(1, filledTo(impl.MaxLimit+1)),
		"a limit far too great":  stateAt(1, filledTo(math.MaxInt)),
		"metrics out of order":   stateAt(1, held("a", 1, most("up", 1), most("cpu", 1))),
		"a metric twice":         stateAt(1, held("a", 1, most("up", 1), most("up", 1))),
		"a metric that is empty": stateAt(1, held("a", 1, most("", 1))),
		"its limit -1":           stateAt(1, held("a", 1, most("up", -1))),
		"its limit far below":    stateAt(1, held("a", 1, most("up", math.MinInt))),
		"its limit too great":    stateAt(1, held("a", 1, most("up", impl.MaxLimit+1))),
		"the second's limit":     stateAt(1, held("a", 1, most("cpu", 1), most("up", -1))),
		"series out of order":    stateAt(1, unsorted(seenAt(1, keyNo("up", 2)), one)),
		"series by their metric": stateAt(1, unsorted(seenAt(1, keyNo("cpu", 1)), one)),
		"a series twice":         stateAt(1, unsorted(one, one)),
		"twice, seen apart":      stateAt(1, unsorted(seenAt(0, one.Key), one)),
		"Last below 0":           stateAt(1, owner("a", seenAt(-1, one.Key))),
		"Last far below 0":       stateAt(1, owner("a", seenAt(math.MinInt, one.Key))),
		"Last above Now":         stateAt(1, owner("a", seenAt(2, one.Key))),
		"Last far above Now":     stateAt(1, owner("a", seenAt(math.MaxInt, one.Key))),
		"a Window has passed":    stateAt(20, owner("a", seenAt(10, one.Key))),
		"more has passed":        stateAt(21, owner("a", seenAt(0, one.Key))),
		"passed since 0":         stateAt(10, owner("a", seenAt(0, one.Key))),
		"passed for the second":  stateAt(20, owner("a", seenAt(20, one.Key), seenAt(10, keyNo("up", 2)))),
		"an idle tenant":         stateAt(1, owner("a")),
		"an idle one with lists": stateAt(1, impl.Tenant{Name: "a", Limit: -1, Metrics: []impl.MetricLimit{}, Series: []impl.Series{}}),
		"an idle one at the end": stateAt(1, held("a", 1), owner("b")),
	}
	for _, name := range notTenantNames() {
		all[fmt.Sprintf("the tenant %q", name)] = stateAt(1, held(name, 1))
	}
	for _, name := range notMetricNames() {
		all[fmt.Sprintf("the metric %q", name)] = stateAt(1, held("a", -1, most(name, 1)))
	}
	for what, key := range notKeys() {
		all["no key: "+what] = stateAt(1, owner("a", seenAt(1, key)))
	}
	return all
}

// filledTo has a series, so that its limit alone is at fault.
func filledTo(limit int) impl.Tenant {
	return filled(held("a", limit), seenAt(1, keyNo("up", 1)))
}

func TestStatesThatAreOK(t *testing.T) {
	for what, s := range okStates() {
		before := cloneState(s)
		for _, c := range hashings(plainConfig()) {
			if !impl.StateOK(c, s) {
				t.Errorf("%s: %s is not OK", what, told(s))
			}
		}
		if !sameState(s, before) {
			t.Errorf("%s: the argument became %s, was %s", what, told(s), told(before))
		}
	}
}

func TestStatesThatAreNotOK(t *testing.T) {
	for what, s := range notOKStates() {
		expectNoState(t, what, plainConfig(), s)
	}
}

func TestTheWindowIsTheConfigs(t *testing.T) {
	s := stateAt(20, owner("acme", seenAt(11, keyNo("up", 1))))
	c := plainConfig()
	for _, c.Window = range []int{1, 5, 9} {
		expectNoState(t, fmt.Sprint("a Window of ", c.Window), c, s)
	}
	for _, c.Window = range []int{10, 11, impl.MaxWindow} {
		if !impl.StateOK(c, s) {
			t.Errorf("a Window of %d", c.Window)
		}
	}
}
