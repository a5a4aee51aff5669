package tests

import (
	"fmt"
	"hash/fnv"
	"slices"
	"testing"

	"loop.example/s02176/impl"
)

func TestCountOf(t *testing.T) {
	c := plainConfig()
	s := three()
	for _, x := range []struct {
		tenant, name string
		count, limit int
	}{
		{"acme", "", 3, 4}, {"acme", "up", 2, 2}, {"acme", "cpu", 1, 2}, {"acme", "mem", 0, 2},
		{"beta", "", 0, 0}, {"beta", "up", 0, 1000000}, {"beta", "cpu", 0, 0}, {"beta", "mem", 0, 2},
		{"gamma", "", 1, 2}, {"gamma", "up", 1, 1}, {"gamma", "cpu", 0, 2},
		{"new", "", 0, 4}, {"new", "up", 0, 2}, {"acm", "", 0, 4}, {"acmee", "up", 0, 2},
		{"acme", "u", 0, 2}, {"acme", "up ", 0, 2}, {"acme", "__name__", 0, 2},
	} {
		expectCount(t, fmt.Sprintf("%s, %q", x.tenant, x.name), c, s, x.tenant, x.name, x.count, x.limit)
	}
	for _, name := range tenantNames() {
		expectCount(t, "the tenant "+name, c, impl.State{}, name, "", 0, 4)
	}
	for _, name := range metricNames() {
		expectCount(t, "the metric "+name, c, stateAt(0, held("a", 1)), "a", name, 0, 2)
	}
}

func TestCountOfWhatIsNoName(t *testing.T) {
	c := plainConfig()
	for _, s := range []impl.State{{}, three()} {
		for _, name := range notTenantNames() {
			expectCount(t, fmt.Sprintf("the tenant %q", name), c, s, name, "", -1, -1)
			expectCount(t, fmt.Sprintf("the tenant %q, a metric", name), c, s, name, "up", -1, -1)
		}
		for _, name := range notMetricNames() {
			expectCount(t, fmt.Sprintf("the metric %q", name), c, s, "acme", name, -1, -1)
			expectCount(t, fmt.Sprintf("the metric %q of a new tenant", name), c, s, "new", name, -1, -1)
		}
	}
}

func TestCountAboveTheLimits(t *testing.T) {
	c := plainConfig()
	s := stateAt(1, filled(held("a", 0, most("up", 1)), append(some("up", 7), some("cpu", 3)...)...))
	expectCount(t, "all", c, s, "a", "", 10, 0)
	expectCount(t, "up", c, s, "a", "up", 7, 1)
	expectCount(t, "cpu", c, s, "a", "cpu", 3, 2)
}

// expectShards asks for just these lists, and that the state is as it was.
func expectShards(t *testing.T, what string, c impl.Config, s impl.State, tenant string, want [][]string) {
	t.Helper()
	before := cloneState(s)
	got := impl.Shards(c, s, tenant)
	if !slices.EqualFunc(got, want, slices.Equal[[]string]) {
		t.Errorf("%s: %q, not %q", what, got, want)
	}
	if !sameState(s, before) {
		t.Errorf("%s: the argument became %s, was %s", what, told(s), told(before))
	}
}

// shardsFor spreads keys by the words of the document, with the hash of the library.
func shardsFor(c impl.Config, keys []string) [][]string {
	lists := make([][]string, c.Shards)
	for _, key := range slices.Sorted(slices.Values(keys)) {
		h := fnv.New64a()
		h.Write([]byte(key))
		n := []uint64{h.Sum64(), 0, uint64(len(key))}[c.Hash] % uint64(c.Shards)
		lists[n] = append(lists[n], key)
	}
	return lists
}

func TestShardsOfKnownKeys(t *testing.T) {
	up1, up2, cpu1, disk0, disk1 := keyNo("up", 1), keyNo("up", 2), keyNo("cpu", 1), keyNo("disk", 0), keyNo("disk", 1)
	if h := impl.Hash64(disk0); h != -6686388798366453165 {
		t.Errorf("the hash of %q is %d", disk0, h)
	}
	s := stateAt(1, owner("a", seenAt(1, up1), seenAt(1, up2), seenAt(1, cpu1), seenAt(1, disk0), seenAt(1, disk1)), owner("b", seenAt(1, up1)))
	c := plainConfig()
	c.Hash, c.Shards = 0, 3
	expectShards(t, "3 by hash", c, s, "a", [][]string{{up1, disk1}, {disk0}, {up2, cpu1}})
	c.Shards = 7
	expectShards(t, "7 by hash", c, s, "a", [][]string{{}, {up1}, {}, {cpu1, disk1}, {}, {up2}, {disk0}})
	c.Hash, c.Shards = 1, 3
	expectShards(t, "3 by 0", c, s, "a", [][]string{{up1, up2, cpu1, disk0, disk1}, {}, {}})
	c.Hash = 2
	expectShards(t, "3 by length", c, s, "a", [][]string{{disk0, disk1}, {up1, up2}, {cpu1}})
	c.Shards = 1
	expectShards(t, "1 by length", c, s, "a", [][]string{{up1, up2, cpu1, disk0, disk1}})
	expectShards(t, "the other tenant", c, s, "b", [][]string{{up1}})
}

func TestShardsOfMaxShards(t *testing.T) {
	c := plainConfig()
	c.Hash, c.Shards = 0, impl.MaxShards
	got := impl.Shards(c, stateAt(1, owner("a", seenAt(1, keyNo("disk", 0)), seenAt(1, keyNo("up", 1)))), "a")
	if len(got) != 64 || !slices.Equal(got[19], []string{keyNo("disk", 0)}) || !slices.Equal(got[42], []string{keyNo("up", 1)}) {
		t.Errorf("%q", got)
	}
}

func TestShardsOfEveryHashing(t *testing.T) {
	c := plainConfig()
	var keys []string
	tenant, below := owner("a"), 0
	for _, name := range []string{"up", "cpu", "disk", "net_in", "é"} {
		for n := range 60 {
			keys = append(keys, keyNo(name, n))
			tenant.Series = append(tenant.Series, seenAt(1, keyNo(name, n)))
			if impl.Hash64(keyNo(name, n)) < 0 {
				below++
			}
		}
	}
	s := stateAt(1, filled(tenant, tenant.Series...), owner("b", seenAt(1, keyNo("up", 99))))
	for c.Hash = range 3 {
		for _, c.Shards = range []int{1, 2, 3, 5, 63, 64} {
			expectShards(t, fmt.Sprintf("%d by %d", c.Shards, c.Hash), c, s, "a", shardsFor(c, keys))
			all := slices.Sorted(slices.Values(slices.Concat(impl.Shards(c, s, "a")...)))
			if !slices.Equal(all, slices.Sorted(slices.Values(keys))) {
				t.Errorf("%d by %d: all together are %q", c.Shards, c.Hash, all)
			}
		}
	}
	if below < 50 {
		t.Errorf("%d hashes below 0: the test is too tame", below)
	}
}

func TestShardsOfNoSeries(t *testing.T) {
	for _, c := range hashings(plainConfig()) {
		for _, name := range []string{"new", "beta", "acm"} {
			expectShards(t, name, c, three(), name, make([][]string, c.Shards))
		}
		for _, name := range notTenantNames() {
			expectShards(t, fmt.Sprintf("the tenant %q", name), c, three(), name, nil)
		}
	}
}
