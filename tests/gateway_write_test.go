package tests

import (
	"fmt"
	"math"
	"slices"
	"strings"
	"testing"

	"loop.example/s02176/impl"
)

// recordsOf are the records of a write with these verdicts.
func recordsOf(tenant string, samples []impl.Sample, verdicts []int) []impl.Rec {
	var all []impl.Rec
	for i, s := range samples {
		if verdicts[i] == impl.VerdictKnown || verdicts[i] == impl.VerdictNew {
			all = append(all, seriesRec(tenant, handKey(modelCanon(s.Labels).form...)))
		}
	}
	return all
}

// expectWrite asks for these verdicts, and for the node with just the records of what they admit, in one batch.
func expectWrite(t *testing.T, what string, c impl.Config, n impl.Node, tenant string, samples []impl.Sample, verdicts ...int) impl.Node {
	t.Helper()
	want := replied{n, verdictsReply(verdicts...)}
	if all := recordsOf(tenant, samples, verdicts); len(all) > 0 {
		after := modelNodeApply(c, n, all)
		if after.code != impl.NodeOK {
			t.Fatalf("%s: the records are answered %d", what, after.code)
		}
		want.node = after.node
	}
	expectHandle(t, what, c, n, handRequest(writeReq(tenant, samples...)), want)
	return want.node
}

func samples(all ...impl.Sample) []impl.Sample { return all }

// The bits of values that are none, and of some that are.
const (
	quietNaN  = 0x7ff8000000000000
	infinity  = 0x7ff0000000000000
	signBit   = math.MinInt
	mantissas = 1<<52 - 1
)

// faultySamples have labels that Canon refuses, with each of its codes.
func faultySamples() map[int][]impl.Label {
	all := map[int][]impl.Label{
		impl.LabelsMany:   up(numbered(16)...),
		impl.LabelsTwice:  up(lab("a", "v"), lab("a", "w")),
		impl.LabelsMetric: list(lab("a", "v")),
	}
	for code, l := range faultyLabels() {
		all[code] = up(l)
	}
	return all
}

func TestVerdictsOfLabels(t *testing.T) {
	c, n := nodeConfig(), workNode()
	for code, labels := range faultySamples() {
		what := fmt.Sprint("code ", code)
		expectWrite(t, what, c, n, "a", samples(sampleOf(0, labels...)), code)
		expectWrite(t, what+", not a number", c, n, "a", samples(sampleOf(quietNaN, labels...)), code)
		expectWrite(t, what+", no tenant yet", c, n, "new", samples(sampleOf(1, labels...)), code)
		expectWrite(t, what+", between two", c, n, "a", samples(nth("up", 1), sampleOf(0, labels...), nth("up", 2)), 1, code, 2)
		expectWrite(t, what+", ahead", c, n, "new", samples(sampleOf(0, labels...), nth("up", 1)), code, 2)
		full := mustHandle(t, c, n, limitReq("a", "", 0), "\x00")
		expectWrite(t, what+", a tenant that is full", c, full, "a", samples(sampleOf(0, labels...)), code)
	}
	expectWrite(t, "no labels", c, n, "a", samples(sampleOf(0)), impl.LabelsMetric)
	expectWrite(t, "an empty metric", c, n, "a", samples(sampleOf(0, metric(""))), impl.LabelsMetric)
	expectWrite(t, "255 labels", c, n, "a", samples(sampleOf(0, make([]impl.Label, 255)...)), impl.LabelsMany)
}

func TestVerdictsOfAdmission(t *testing.T) {
	c, n := nodeConfig(), workNode()
	expectWrite(t, "known", c, n, "a", samples(nth("up", 1)), impl.VerdictKnown)
	expectWrite(t, "new", c, n, "a", samples(nth("up", 2)), impl.VerdictNew)
	expectWrite(t, "a new tenant", c, n, "new", samples(nth("up", 2)), impl.VerdictNew)
	expectWrite(t, "another's series", c, n, "a", samples(nth("cpu", 1)), impl.VerdictNew)
	for limit, verdict := range map[int]int{0: impl.VerdictTenant, 1: impl.VerdictTenant, 2: impl.VerdictNew} {
		m := mustHandle(t, c, n, limitReq("a", "", limit), "\x00")
		expectWrite(t, fmt.Sprint("a tenant's limit of ", limit), c, m, "a", samples(nth("up", 2)), verdict)
		expectWrite(t, fmt.Sprint("known at a limit of ", limit), c, m, "a", samples(nth("up", 1)), impl.VerdictKnown)
		m = mustHandle(t, c, n, limitReq("a", "up", limit), "\x00")
		if verdict == impl.VerdictTenant {
			verdict = impl.VerdictMetric
		}
		expectWrite(t, fmt.Sprint("a metric's limit of ", limit), c, m, "a", samples(nth("up", 2), nth("cpu", 2)), verdict, impl.VerdictNew)
	}
}

func TestASampleOfATenantTooMany(t *testing.T) {
	c := nodeConfig()
	n := mustOpen(t, c, impl.Disk{Cap: 100000})
	n.State = stateAt(3, numberedTenants(impl.MaxTenants)...)
	write := handRequest(writeReq("new", nth("up", 1)))
	if got := handleOf(c, n, write); !got.same(replied{n, verdictsReply(impl.VerdictTenant)}) {
		t.Errorf("no room: %.10q", got.reply)
	}
	if got := handleOf(c, n, handRequest(limitReq("new", "", 1))); !got.same(replied{n, "\x02"}) {
		t.Errorf("a limit without room: %.10q", got.reply)
	}
	n.State.Tenants = n.State.Tenants[1:]
	got := handleOf(c, n, handRequest(writeReq("t00000", nth("up", 1), nth("up", 2), nth("up", 2), nth("up", 3))))
	if want := modelNodeApply(c, n, recs(seriesRec("t00000", keyNo("up", 1)), seriesRec("t00000", keyNo("up", 2)), seriesRec("t00000", keyNo("up", 2)))); !got.same(replied{want.node, verdictsReply(2, 2, 1, 4)}) {
		t.Errorf("the last one: %.10q", got.reply)
	}
}

func TestSamplesAreJudgedOnWhatThoseBeforeLeft(t *testing.T) {
	c := nodeConfig()
	n := mustOpen(t, c, impl.Disk{Cap: 100000})
	expectWrite(t, "new, then known", c, n, "a", samples(nth("up", 1), nth("up", 1), nth("up", 1)), 2, 1, 1)
	expectWrite(t, "the metric's limit is filled", c, n, "a", samples(nth("up", 1), nth("up", 2), nth("up", 3), nth("up", 2), nth("up", 4)), 2, 2, 4, 1, 4)
	expectWrite(t, "the tenant's limit is filled", c, n, "a", samples(nth("up", 1), nth("cpu", 1), nth("mem", 1), nth("io", 1), nth("up", 2), nth("mem", 1)), 2, 2, 2, 3, 3, 1)
	expectWrite(t, "what was refused fills nothing", c, n, "a",
		samples(nth("up", 1), sampleOf(quietNaN, metric("up")), sampleOf(0), nth("up", 2), nth("up", 3), nth("cpu", 1), nth("cpu", 2)), 2, 6, 46, 2, 4, 2, 3)
	m := expectWrite(t, "one write", c, n, "a", samples(nth("up", 1), nth("up", 2)), 2, 2)
	m = expectWrite(t, "another behind it", c, m, "a", samples(nth("up", 3), nth("up", 2), nth("cpu", 1), nth("io", 1)), 4, 1, 2, 3)
	expectWrite(t, "another tenant", c, m, "b", samples(nth("up", 3), nth("up", 2), nth("cpu", 1), nth("io", 1)), 2, 2, 2, 3)
}

func TestSamplesOfOneSeries(t *testing.T) {
	c, n := nodeConfig(), workNode()
	labels := list(metric("up"), lab("a", "1"), lab("b", ""), lab("Z", "é"))
	var all []impl.Sample
	verdicts := []int{impl.VerdictNew}
	orders(labels, func(order []impl.Label) { all = append(all, sampleOf(len(all), order...)) })
	all = append(all, sampleOf(0, lab("Z", "é"), metric("up"), lab("a", "1")))
	for len(verdicts) < len(all) {
		verdicts = append(verdicts, impl.VerdictKnown)
	}
	expectWrite(t, "every order", c, n, "new", all, verdicts...)
	expectWrite(t, "nearly the same", c, n, "new", samples(sampleOf(0, labels...), sampleOf(0, append(list(lab("c", "1")), labels...)...)), 2, 2)
}

func TestAKnownSeriesIsSeenNow(t *testing.T) {
	c, n := nodeConfig(), workNode()
	after := expectWrite(t, "known", c, n, "a", samples(nth("up", 1)), 1)
	if got := after.State.Tenants[0].Series; len(got) != 1 || got[0] != seenAt(3, keyNo("up", 1)) {
		t.Errorf("%v", got)
	}
	after = mustHandle(t, c, after, tickReq(4), "\x00")
	expectWrite(t, "4 later", c, after, "a", samples(nth("up", 1)), 1)
	after = mustHandle(t, c, after, tickReq(1), "\x00")
	expectWrite(t, "a Window later", c, after, "a", samples(nth("up", 1)), 2)
}

// expectNaN asks whether a value with these bits, of either sign, is taken for a number.
func expectNaN(t *testing.T, c impl.Config, n impl.Node, bits int, nan bool) {
	t.Helper()
	for _, b := range []int{bits, bits | signBit} {
		verdict := impl.VerdictNew
		if nan {
			verdict = impl.VerdictNaN
		}
		if got := handleOf(c, n, handRequest(writeReq("a", sampleOf(b, metric("x"))))); got.reply != verdictsReply(verdict) || nan != sameNode(got.node, n) {
			t.Errorf("%016x: %q, not a number is %v", uint64(b), got.reply, nan)
		}
		if math.IsNaN(math.Float64frombits(uint64(b))) != nan {
			t.Errorf("%016x is taken wrong by the test", uint64(b))
		}
	}
}

func TestValuesThatAreNotNumbers(t *testing.T) {
	c, n := nodeConfig(), workNode()
	for i := range 52 {
		expectNaN(t, c, n, infinity|1<<i, true)
		expectNaN(t, c, n, infinity|(mantissas&^(1<<i)), true)
		expectNaN(t, c, n, 1<<i, false)
	}
	expectNaN(t, c, n, infinity|mantissas, true)
	expectNaN(t, c, n, infinity, false)
	expectNaN(t, c, n, 0, false)
	expectNaN(t, c, n, mantissas, false)
	for i := 52; i < 63; i++ {
		expectNaN(t, c, n, infinity&^(1<<i)|mantissas, false)
		expectNaN(t, c, n, infinity&^(1<<i), false)
		expectNaN(t, c, n, 1<<i|mantissas, false)
	}
	for _, value := range []float64{1, -1, math.Pi, math.MaxFloat64, math.SmallestNonzeroFloat64, math.Inf(1), math.Inf(-1)} {
		expectNaN(t, c, n, int(math.Float64bits(value)), false)
	}
	expectNaN(t, c, n, int(math.Float64bits(math.NaN())), true)
}

// What is not a number has no verdict of Admit, and doesn't make a series seen.
func TestNotANumberComesAheadOfAdmission(t *testing.T) {
	c, n := nodeConfig(), workNode()
	full := mustHandle(t, c, n, limitReq("a", "", 0), "\x00")
	for _, bits := range []int{quietNaN, quietNaN | signBit, infinity | 1, -1} {
		nan := sampleOf(bits, nth("up", 1).Labels...)
		expectWrite(t, "of a known series", c, n, "a", samples(nan), 6)
		expectWrite(t, "at the limit", c, full, "a", samples(nan, sampleOf(bits, metric("x"))), 6, 6)
		expectWrite(t, "of a new tenant", c, n, "new", samples(nan, nth("up", 1), nan), 6, 2, 6)
	}
	for _, bits := range []int{infinity, infinity | signBit, signBit, 0} {
		expectWrite(t, "a number", c, n, "a", samples(sampleOf(bits, nth("up", 1).Labels...), sampleOf(bits, metric("x"))), 1, 2)
	}
}

func TestAWriteWithoutARecordLogsNothing(t *testing.T) {
	c := nodeConfig()
	nodes := spoilt()
	for _, lsn := range []int{-1, impl.MaxLsn} {
		n := workNode()
		n.Lsn = lsn
		nodes[fmt.Sprint("lsn ", lsn)] = n
	}
	for what, n := range nodes {
		n.State.Tenants[0].Limit = 1
		expectWrite(t, what+", no samples", c, n, "a", nil)
		expectWrite(t, what+", no samples of a new tenant", c, n, "new", nil)
		expectWrite(t, what+", all refused", c, n, "a", samples(sampleOf(0), sampleOf(quietNaN, metric("up")), nth("up", 2), nth("up", 3)), 46, 6, 3, 3)
	}
}

func TestAWriteOfMaxBatchSamples(t *testing.T) {
	c, n := nodeConfig(), workNode()
	var all []impl.Sample
	verdicts := make([]int, impl.MaxBatch)
	s := n.State
	for i := range impl.MaxBatch {
		name, of := []string{"up", "é"}[i%2], i%5
		all = append(all, nth(name, of))
		s, verdicts[i] = impl.Admit(c, s, "new", keyNo(name, of))
	}
	expectWrite(t, "all of them", c, n, "new", all, verdicts...)
	if !slices.Contains(verdicts, 1) || !slices.Contains(verdicts, 2) || !slices.Contains(verdicts, 3) {
		t.Errorf("%v: the test is too tame", verdicts)
	}
	c.TenantLimit, c.MetricLimit = impl.MaxBatch, impl.MaxBatch
	for i := range all {
		all[i], verdicts[i] = sampleOf(i, metric("m"), lab("n", fmt.Sprintf("%03d", i))), 2
	}
	expectWrite(t, "all new", c, n, "new", all, verdicts...)
	c.MetricLimit = impl.MaxBatch - 1
	verdicts[impl.MaxBatch-1] = 4
	expectWrite(t, "all but one", c, n, "new", all, verdicts...)
}

// longWrite is one whose batch has MaxPayload bytes with by 0, and that many more with another.
func longWrite(by int) (string, []impl.Sample) {
	var all []impl.Sample
	for i := range impl.MaxBatch {
		value := strings.Repeat("v", 58)
		if i < 10 {
			value = value[:57]
		}
		all = append(all, sampleOf(0, metric("up"), lab("n", value)))
	}
	last := &all[impl.MaxBatch-1]
	last.Labels[1].Value = strings.Repeat("v", 58+by)
	return strings.Repeat("t", impl.MaxTenant), all
}

// The tenant stands in a record for each sample, so a batch may be too great though its request isn't.
func TestAWriteWhoseBatchIsTooBig(t *testing.T) {
	c, n := nodeConfig(), workNode()
	c.MetricLimit = 3
	for _, by := range []int{-1, 0} {
		tenant, all := longWrite(by)
		verdicts := slices.Repeat([]int{1}, impl.MaxBatch)
		verdicts[0], verdicts[10] = 2, 2
		expectWrite(t, fmt.Sprint("by ", by), c, n, tenant, all, verdicts...)
	}
	for what, n := range spoilt() {
		tenant, all := longWrite(1)
		expectOnly(t, what+", a byte more", c, n, handRequest(writeReq(tenant, all...)), impl.ReplyRefused)
	}
	tenant, all := longWrite(0)
	if size := len(handBatch(batch(1, recordsOf(tenant, all, slices.Repeat([]int{1}, impl.MaxBatch))...))); size != impl.MaxPayload {
		t.Errorf("%d bytes", size)
	}
}
