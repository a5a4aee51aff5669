package tests

import (
	"fmt"
	"slices"
	"testing"

	"loop.example/s02176/impl"
)

func sampleOf(bits int, labels ...impl.Label) impl.Sample {
	return impl.Sample{Labels: labels, Bits: bits}
}

// nth is a sample of the series that keyNo gives the key of.
func nth(name string, n int) impl.Sample {
	return sampleOf(0, lab("n", fmt.Sprint(n)), metric(name))
}

func writeReq(tenant string, samples ...impl.Sample) impl.Request {
	return impl.Request{Kind: impl.AskWrite, Tenant: tenant, Samples: samples}
}

func tickReq(by int) impl.Request { return impl.Request{Kind: impl.AskTick, Num: by} }

func limitReq(tenant, name string, limit int) impl.Request {
	return impl.Request{Kind: impl.AskLimit, Tenant: tenant, Metric: name, Num: limit}
}

func checkpointReq() impl.Request { return impl.Request{Kind: impl.AskCheckpoint} }

func countReq(tenant, name string) impl.Request {
	return impl.Request{Kind: impl.AskCount, Tenant: tenant, Metric: name}
}

func dumpReq(tenant string) impl.Request { return impl.Request{Kind: impl.AskDump, Tenant: tenant} }

func handSample(s impl.Sample) string {
	text := []byte(bytesOf(len(s.Labels), 1))
	for _, l := range s.Labels {
		text = append(text, sized(l.Name, 1)+sized(l.Value, 2)...)
	}
	return string(text) + bytesOf(s.Bits, 8)
}

// handRequest writes a request by the words of the document, also one that has no encoding.
func handRequest(r impl.Request) string {
	text := []byte(bytesOf(r.Kind, 1))
	switch r.Kind {
	case 1:
		text = append(text, sized(r.Tenant, 1)+bytesOf(len(r.Samples), 2)...)
		for _, s := range r.Samples {
			text = append(text, handSample(s)...)
		}
	case 2:
		text = append(text, bytesOf(r.Num, 8)...)
	case 3:
		text = append(text, sized(r.Tenant, 1)+sized(r.Metric, 2)+bytesOf(r.Num, 8)...)
	case 5:
		text = append(text, sized(r.Tenant, 1)+sized(r.Metric, 2)...)
	case 6:
		text = append(text, sized(r.Tenant, 1)...)
	}
	return string(text)
}

func sameSample(a, b impl.Sample) bool { return a.Bits == b.Bits && slices.Equal(a.Labels, b.Labels) }

func sameRequest(a, b impl.Request) bool {
	return a.Kind == b.Kind && a.Tenant == b.Tenant && a.Metric == b.Metric && a.Num == b.Num && slices.EqualFunc(a.Samples, b.Samples, sameSample)
}

func cloneRequest(r impl.Request) impl.Request {
	r.Samples = slices.Clone(r.Samples)
	for i, s := range r.Samples {
		r.Samples[i].Labels = slices.Clone(s.Labels)
	}
	return r
}

func toldRequest(r impl.Request) string { return fmt.Sprintf("%.300q", fmt.Sprint(r)) }

// modelRequest is DecodeRequest once more.
func modelRequest(s string) (impl.Request, bool) {
	in := cursor{s, len(s) <= 60000}
	r := impl.Request{Kind: in.num(1)}
	switch r.Kind {
	case 1:
		r.Tenant = in.text(1)
		count := in.num(2)
		in.ok = in.ok && count <= 500
		for i := 0; i < count && in.ok; i++ {
			var sample impl.Sample
			for labels := in.num(1); labels > 0 && in.ok; labels-- {
				name := in.text(1)
				sample.Labels = append(sample.Labels, lab(name, in.text(2)))
			}
			sample.Bits = in.num(8)
			r.Samples = append(r.Samples, sample)
		}
	case 2:
		r.Num = in.num(8)
	case 3, 5:
		r.Tenant = in.text(1)
		r.Metric = in.text(2)
		if r.Kind == 3 {
			r.Num = in.num(8)
		}
	case 4:
	case 6:
		r.Tenant = in.text(1)
	default:
		in.ok = false
	}
	if !in.ok || in.rest != "" {
		return impl.Request{}, false
	}
	return r, true
}

// replied is all that Handle answers.
type replied struct {
	node  impl.Node
	reply string
}

func (a replied) same(b replied) bool { return sameNode(a.node, b.node) && a.reply == b.reply }

func (a replied) String() string { return fmt.Sprintf("%.200q, %s", a.reply, toldNode(a.node)) }

func handleOf(c impl.Config, n impl.Node, request string) replied {
	after, reply := impl.Handle(c, n, request)
	return replied{after, reply}
}

// expectHandle asks for just this answer under every hashing, and that the node is as it was.
func expectHandle(t *testing.T, what string, c impl.Config, n impl.Node, request string, want replied) {
	t.Helper()
	before := cloneNode(n)
	for _, k := range hashings(c) {
		if !impl.ConfigOK(c) {
			k = c
		}
		if got := handleOf(k, n, request); !got.same(want) {
			t.Errorf("%s: %v, not %v", what, got, want)
		}
		if !sameNode(n, before) {
			t.Fatalf("%s: the argument became %s, was %s", what, toldNode(n), toldNode(before))
		}
	}
}

// expectOnly asks for a reply of one byte and the node as it was.
func expectOnly(t *testing.T, what string, c impl.Config, n impl.Node, request string, kind int) {
	t.Helper()
	expectHandle(t, what, c, n, request, replied{cloneNode(n), bytesOf(kind, 1)})
}

// verdictsReply is the reply to a write with these verdicts.
func verdictsReply(verdicts ...int) string {
	text := "\x00" + bytesOf(len(verdicts), 2)
	for _, v := range verdicts {
		text += bytesOf(v, 1)
	}
	return text
}

func countReply(count, limit int) string { return "\x00" + bytesOf(count, 8) + bytesOf(limit, 8) }

func dumpReply(now int, series ...impl.Series) string {
	text := []byte("\x00" + bytesOf(now, 8) + bytesOf(len(series), 4))
	for _, s := range series {
		text = append(text, sized(s.Key, 2)+bytesOf(s.Last, 8)...)
	}
	return string(text)
}

// mustHandle is for what must be answered with this reply on the way to a test.
func mustHandle(t *testing.T, c impl.Config, n impl.Node, r impl.Request, reply string) impl.Node {
	t.Helper()
	got := handleOf(c, n, handRequest(r))
	if got.reply != reply {
		t.Fatalf("%s: %v, not %q", toldRequest(r), got, reply)
	}
	return got.node
}
