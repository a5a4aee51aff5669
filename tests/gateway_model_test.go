package tests

import (
	"fmt"
	"testing"

	"loop.example/s02176/impl"
)

// isNaN asks the bits, as the document words it.
func isNaN(bits int) bool { return bits>>52&0x7ff == 0x7ff && bits&(1<<52-1) != 0 }

// judged gives the state after a sample, its verdict, and the record if there is one.
func judged(c impl.Config, s impl.State, tenant string, sample impl.Sample) (impl.State, int, []impl.Rec) {
	form := modelCanon(sample.Labels)
	if form.code != impl.LabelsOK {
		return s, form.code, nil
	}
	if isNaN(sample.Bits) {
		return s, impl.VerdictNaN, nil
	}
	key := handKey(form.form...)
	after, verdict := impl.Admit(c, s, tenant, key)
	if verdict == impl.VerdictKnown || verdict == impl.VerdictNew {
		return after, verdict, recs(seriesRec(tenant, key))
	}
	return s, verdict, nil
}

// byCode is the answer to a change that the node answered so.
func byCode(after noded, reply string) replied {
	switch {
	case after.code == impl.NodeOK:
	case after.code == impl.NodeState || after.code == impl.LogTooBig || after.code == impl.LogEnd || after.code == impl.LogGap:
		reply = "\x02"
	case !after.node.Up:
		reply = "\x04"
	default:
		reply = "\x03"
	}
	return replied{after.node, reply}
}

func modelWrite(c impl.Config, n impl.Node, r impl.Request) replied {
	var all []impl.Rec
	var verdicts []int
	s := n.State
	for _, sample := range r.Samples {
		after, verdict, rec := judged(c, s, r.Tenant, sample)
		s, verdicts, all = after, append(verdicts, verdict), append(all, rec...)
	}
	reply := verdictsReply(verdicts...)
	if len(all) == 0 {
		return replied{n, reply}
	}
	return byCode(modelNodeApply(c, n, all), reply)
}

// modelQuestion answers AskCount and AskDump on a state.
func modelQuestion(c impl.Config, s impl.State, r impl.Request) string {
	count, limit := impl.CountOf(c, s, r.Tenant, r.Metric)
	switch {
	case count < 0:
		return "\x02"
	case r.Kind == impl.AskCount:
		return countReply(count, limit)
	}
	for _, tenant := range s.Tenants {
		if tenant.Name == r.Tenant {
			return dumpReply(s.Now, tenant.Series...)
		}
	}
	return dumpReply(s.Now)
}

// modelHandle is Handle once more, for a config that is OK and a node that NodeOpen gave.
func modelHandle(c impl.Config, n impl.Node, text string) replied {
	if !n.Up {
		return replied{n, "\x04"}
	}
	r, ok := modelRequest(text)
	if !ok {
		return replied{n, "\x01"}
	}
	if n.Degraded && r.Kind <= impl.AskCheckpoint {
		return replied{n, "\x03"}
	}
	switch r.Kind {
	case impl.AskWrite:
		if _, limit := impl.CountOf(c, n.State, r.Tenant, ""); limit < 0 {
			return replied{n, "\x02"}
		}
		return modelWrite(c, n, r)
	case impl.AskTick:
		return byCode(modelNodeApply(c, n, recs(tickRec(r.Num))), "\x00")
	case impl.AskLimit:
		return byCode(modelNodeApply(c, n, recs(limitRec(r.Tenant, r.Metric, r.Num))), "\x00")
	case impl.AskCheckpoint:
		return byCode(modelCheckpoint(n), "\x00")
	}
	return replied{n, modelQuestion(c, n.State, r)}
}

// sample is mostly one of a few series, its labels in any order; now and then its value or a label is none.
func (r *dice) sample() impl.Sample {
	if odd := r.labels(); r.below(6) == 0 && modelCanon(odd).code != impl.LabelsOK {
		return sampleOf(0, odd...)
	}
	labels := list(metric(r.pick(poolMetrics...)), lab("n", fmt.Sprint(r.below(4))), lab("empty", ""))
	bits := r.below(1000)
	switch r.below(14) {
	case 0:
		bits = quietNaN + r.below(1000)
	case 1:
		bits = -1 - r.below(1000)
	case 2:
		bits = infinity
	}
	return sampleOf(bits, r.shuffled(labels[:2+r.below(2)])...)
}

// ask is mostly a request that is carried out.
func (r *dice) ask(tenant string, window int) impl.Request {
	if r.below(25) == 0 {
		tenant = r.pick("", "A", "a.b")
	}
	name := r.pick("", "up", "cpu", "é")
	if r.below(25) == 0 {
		name = "\x00"
	}
	switch r.below(16) {
	case 0, 1, 2:
		return tickReq(r.below(window + 1))
	case 3:
		return limitReq(tenant, name, r.below(9)-1-r.below(2))
	case 4:
		return checkpointReq()
	case 5, 6:
		return countReq(tenant, name)
	case 7, 8:
		return dumpReq(tenant)
	}
	w := writeReq(tenant)
	for range r.below(7) {
		w.Samples = append(w.Samples, r.sample())
	}
	return w
}

// askText is mostly the bytes of a request.
func (r *dice) askText(tenant string, window int) string {
	text := handRequest(r.ask(tenant, window))
	switch r.below(30) {
	case 0:
		return r.worn(text)
	case 1:
		return r.bytes(20)
	}
	return text
}

// expectModelReply asks for what the model says, and gives it.
func expectModelReply(t *testing.T, what string, c impl.Config, n impl.Node, text string) replied {
	t.Helper()
	want, before := modelHandle(c, n, text), cloneNode(n)
	if got := handleOf(c, n, text); !got.same(want) {
		t.Fatalf("%s, %q: %v, not %v", what, text, got, want)
	}
	if !sameNode(n, before) {
		t.Fatalf("%s, %q: the argument became %s, was %s", what, text, toldNode(n), toldNode(before))
	}
	return want
}

// Promise 12: the replies are those of the document, whatever the disk does.
func TestRepliesAgainstAModel(t *testing.T) {
	seen, verdicts := map[int]int{}, map[int]int{}
	for seed := range 800 {
		r := dice(seed)
		c, d := r.nodeConfig(), impl.Disk{Cap: 400 + r.below(6000)}
		for range 4 {
			n := modelNodeOpen(c, r.armed(d, 8)).node
			for range 25 {
				n.Disk = r.armed(n.Disk, 25)
				text := r.askText(r.pick(poolTenants...), c.Window)
				got := expectModelReply(t, fmt.Sprint("seed ", seed), c, n, text)
				seen[int(got.reply[0])]++
				if len(got.reply) > 3 && text[0] == impl.AskWrite {
					for _, v := range []byte(got.reply[3:]) {
						verdicts[int(v)]++
					}
				}
				n = got.node
			}
			d = r.crashed(n.Disk)
		}
	}
	expectSeen(t, seen, impl.ReplyOK, impl.ReplyMalformed, impl.ReplyRefused, impl.ReplyUnavailable, impl.ReplyDown)
	expectSeen(t, verdicts, impl.VerdictKnown, impl.VerdictNew, impl.VerdictTenant, impl.VerdictMetric, impl.VerdictNaN, impl.LabelsMany, impl.LabelsName, impl.LabelsTwice, impl.LabelsMetric)
}

// Promise 12 once more, on a disk that refuses nothing: there the replies hang on the states alone.
func TestRepliesOnAGoodDisk(t *testing.T) {
	for seed := range 300 {
		r := dice(seed)
		c := r.nodeConfig()
		m := newModel(c)
		n := mustOpen(t, c, impl.Disk{Cap: impl.MaxDisk})
		for range 40 {
			ask := r.ask(r.pick(poolTenants...), c.Window)
			want := m.reply(ask)
			got := handleOf(c, n, handRequest(ask))
			if got.reply != want || !sameState(got.node.State, m.state()) {
				t.Fatalf("seed %d, %s: %v, not %q and %s", seed, toldRequest(ask), got, want, told(m.state()))
			}
			n = got.node
		}
	}
}

// reply answers a request on the model of chapter 4, which knows the tenants, metrics and keys of its pool.
func (m *modelState) reply(r impl.Request) string {
	ok := map[int]string{done: "\x00", refused: "\x02"}
	switch r.Kind {
	case impl.AskTick:
		return ok[m.tick(r.Num)]
	case impl.AskLimit:
		return ok[m.setLimit(r.Tenant, r.Metric, r.Num)]
	case impl.AskCheckpoint:
		return "\x00"
	case impl.AskCount, impl.AskDump:
		return modelQuestion(m.config, m.state(), r)
	}
	if count, _ := impl.CountOf(m.config, m.state(), r.Tenant, ""); count < 0 {
		return "\x02"
	}
	var verdicts []int
	for _, s := range r.Samples {
		form := modelCanon(s.Labels)
		switch {
		case form.code != impl.LabelsOK:
			verdicts = append(verdicts, form.code)
		case isNaN(s.Bits):
			verdicts = append(verdicts, impl.VerdictNaN)
		default:
			verdicts = append(verdicts, m.admit(r.Tenant, handKey(form.form...)))
		}
	}
	return verdictsReply(verdicts...)
}
