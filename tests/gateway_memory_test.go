package tests

import (
	"fmt"
	"testing"

	"loop.example/s02176/impl"
)

// roomyRequest has spare room behind each list, where a careless append would write into the argument.
func roomyRequest(r impl.Request) impl.Request {
	r.Samples = withRoom(r.Samples)
	for i, s := range r.Samples {
		r.Samples[i].Labels = roomyLabels(s.Labels)
	}
	return r
}

func scribbleRequest(r impl.Request) {
	for _, s := range r.Samples {
		scribbleLabels(s.Labels)
	}
	scribble(r.Samples, sampleOf(77, lab("scribble", "scribble")))
}

// requestsOfAllSorts have encodings or not.
func requestsOfAllSorts() []impl.Request {
	all := append(eachRequest(), impl.Request{}, impl.Request{Kind: 7, Samples: samples(nth("up", 1))})
	wide, many := writeReq("a", nth("up", 1), sampleOf(1, make([]impl.Label, 256)...)), writeReq("a", make([]impl.Sample, impl.MaxBatch+1)...)
	unused := tickReq(1)
	unused.Samples = samples(nth("up", 1), nth("up", 2))
	return append(all, wide, many, unused, writeReq("a", nth("up", 1), sampleOf(0, lab(bytesLong(256), ""))), writeReq("a", samplesLong(impl.MaxRequest)...))
}

func TestEncodeRequestWritesIntoNothing(t *testing.T) {
	for i, want := range requestsOfAllSorts() {
		r := roomyRequest(want)
		text := impl.EncodeRequest(r)
		if !sameRequest(r, want) {
			t.Errorf("request %d became %s, was %s", i, toldRequest(r), toldRequest(want))
		}
		for _, s := range r.Samples {
			if !clean(s.Labels) {
				t.Errorf("request %d: the spare room behind the labels is written to", i)
			}
		}
		for _, s := range r.Samples[len(r.Samples):cap(r.Samples)] {
			if !sameSample(s, impl.Sample{}) {
				t.Errorf("request %d: the spare room has %v", i, s)
			}
		}
		kept := string([]byte(text))
		scribbleRequest(r)
		if text != kept {
			t.Errorf("request %d: the answer became %.80q, was %.80q", i, text, kept)
		}
	}
}

func TestDecodeRequestGivesNewMemory(t *testing.T) {
	for _, r := range eachRequest() {
		text := handRequest(r)
		first, _ := impl.DecodeRequest(text)
		scribbleRequest(first)
		expectRequest(t, "after a scribble", r)
		second, _ := impl.DecodeRequest(text)
		for i := range second.Samples {
			want := cloneRequest(second)
			scribbleLabels(second.Samples[i].Labels)
			for j := range want.Samples[i].Labels {
				want.Samples[i].Labels[j] = second.Samples[i].Labels[j]
			}
			if !sameRequest(second, want) {
				t.Errorf("two lists share memory: %s, not %s", toldRequest(second), toldRequest(want))
			}
		}
	}
}

func TestHandleSharesNoMemory(t *testing.T) {
	c := nodeConfig()
	texts := allTexts()
	for _, x := range changings() {
		texts = append(texts, handRequest(x.request))
	}
	for what, n := range answeredNodes() {
		for _, text := range texts {
			for _, k := range []impl.Config{c, {}} {
				expectNodeApart(t, fmt.Sprintf("%s, %.30q", what, text), n, func(n impl.Node) noded {
					after, reply := impl.Handle(k, n, text)
					return noded{after, int(reply[0])}
				})
			}
		}
	}
	for why, s := range notOKStates() {
		if len(s.Tenants) > 100 {
			continue
		}
		n := workNode()
		n.State = s
		expectNodeApart(t, why, n, func(n impl.Node) noded {
			after, reply := impl.Handle(c, n, "\x04")
			return noded{after, int(reply[0])}
		})
	}
}

func TestFailuresOfRequestsShareNoMemory(t *testing.T) {
	c := nodeConfig()
	for at := range 9 {
		for _, f := range faults() {
			for _, x := range changings() {
				n := leftNode(t, "left")
				f.arm(&n.Disk, at)
				expectNodeApart(t, fmt.Sprintf("%s, %s at operation %d", x.what, f.what, at), n, func(n impl.Node) noded {
					after, reply := impl.Handle(c, n, handRequest(x.request))
					return noded{after, int(reply[0])}
				})
			}
		}
	}
}
