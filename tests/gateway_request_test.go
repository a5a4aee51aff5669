package tests

import (
	"fmt"
	"math"
	"slices"
	"strings"
	"testing"

	"loop.example/s02176/impl"
)

// expectRequest asks that the request has just the encoding of the document, comes back from it, and is as it was.
func expectRequest(t *testing.T, what string, r impl.Request) {
	t.Helper()
	before, text := cloneRequest(r), handRequest(r)
	if got := impl.EncodeRequest(r); got != text {
		t.Errorf("%s: %.80q of %d, not %.80q of %d", what, got, len(got), text, len(text))
	}
	if back, ok := impl.DecodeRequest(text); !ok || !sameRequest(back, r) {
		t.Errorf("%s: %.80q is read as %v, %s", what, text, ok, toldRequest(back))
	}
	if !sameRequest(r, before) {
		t.Errorf("%s: the argument became %s, was %s", what, toldRequest(r), toldRequest(before))
	}
}

// expectNoBytes asks that the request has no encoding, and that what one could write by hand for it is not read as it.
func expectNoBytes(t *testing.T, what string, r impl.Request) {
	t.Helper()
	before := cloneRequest(r)
	if got := impl.EncodeRequest(r); got != "" {
		t.Errorf("%s: %.80q", what, got)
	}
	if !sameRequest(r, before) {
		t.Errorf("%s: the argument became %s, was %s", what, toldRequest(r), toldRequest(before))
	}
	text := handRequest(r)
	expectRequestText(t, what, text)
	if back, ok := impl.DecodeRequest(text); ok && sameRequest(back, r) {
		t.Errorf("%s: %.80q is read as what has no encoding", what, text)
	}
}

// expectRequestText asks for what the document says of this text.
func expectRequestText(t *testing.T, what, text string) bool {
	t.Helper()
	want, wanted := modelRequest(text)
	got, ok := impl.DecodeRequest(text)
	if ok != wanted || !sameRequest(got, want) {
		t.Errorf("%s: %.80q is read as %v, %s, not %v, %s", what, text, ok, toldRequest(got), wanted, toldRequest(want))
	}
	if ok && impl.EncodeRequest(got) != text {
		t.Errorf("%s: %.80q is read as %s, which is written as %.80q", what, text, toldRequest(got), impl.EncodeRequest(got))
	}
	return ok
}

// expectMalformed asks that there is nothing in the text.
func expectMalformed(t *testing.T, what, text string) {
	t.Helper()
	if r, ok := impl.DecodeRequest(text); ok || !sameRequest(r, impl.Request{}) {
		t.Errorf("%s: %.80q is read as %v, %s", what, text, ok, toldRequest(r))
	}
}

// eachRequest has requests of each kind.
func eachRequest() []impl.Request {
	return []impl.Request{
		writeReq("acme", sampleOf(0x0102030405060708, metric("up"), lab("job", "é")), sampleOf(-1), sampleOf(0, lab("", ""))),
		writeReq("a"),
		tickReq(258),
		limitReq("acme", "up", -1),
		limitReq("a", "", 7),
		checkpointReq(),
		countReq("acme", "up"),
		countReq("a", ""),
		dumpReq("acme"),
	}
}

func TestRequestBytes(t *testing.T) {
	for text, r := range map[string]impl.Request{
		"\x01\x02ab\x00\x02" + "\x02\x01n\x00\x011\x08__name__\x00\x02up\x00\x00\x00\x00\x00\x00\x00\x05" + "\x00\xff\xf8\x00\x00\x00\x00\x00\x00": writeReq("ab", sampleOf(5, lab("n", "1"), metric("up")), sampleOf(-0x8000000000000)),
		"\x01\x01a\x00\x00":                                   writeReq("a"),
		"\x01\x00\x00\x00":                                    writeReq(""),
		"\x02\x01\x02\x03\x04\x05\x06\x07\x08":                tickReq(0x0102030405060708),
		"\x03\x01a\x00\x02up\xff\xff\xff\xff\xff\xff\xff\xfe": limitReq("a", "up", -2),
		"\x03\x00\x00\x00\x00\x00\x00\x00\x00\x00\x00\x00":    limitReq("", "", 0),
		"\x04":                   checkpointReq(),
		"\x05\x03abc\x00\x03cpu": countReq("abc", "cpu"),
		"\x05\x00\x00\x00":       countReq("", ""),
		"\x06\x04acme":           dumpReq("acme"),
		"\x06\x00":               dumpReq(""),
	} {
		if hand := handRequest(r); hand != text {
			t.Fatalf("%s: %q by hand, not %q", toldRequest(r), hand, text)
		}
		expectRequest(t, toldRequest(r), r)
	}
	for _, r := range eachRequest() {
		expectRequest(t, toldRequest(r), r)
	}
}

func TestRequestKinds(t *testing.T) {
	for _, kind := range []int{0, 7, 8, 255, 256, 257, 258, 260, 262, -1, -250, -252, -255, math.MaxInt, math.MinInt, math.MinInt + 4} {
		for _, r := range append(eachRequest(), impl.Request{}) {
			r.Kind = kind
			expectNoBytes(t, fmt.Sprint("kind ", kind), r)
		}
	}
	for kind := range 256 {
		if text := bytesOf(kind, 1); (kind == impl.AskCheckpoint) != expectRequestText(t, fmt.Sprint("kind ", kind), text) {
			t.Errorf("kind %d alone", kind)
		}
	}
}

// Each field that a kind doesn't use is set alone.
func TestRequestFieldsThatAreNotUsed(t *testing.T) {
	sets := map[string]func(*impl.Request){
		"Tenant":  func(r *impl.Request) { r.Tenant = "a" },
		"Metric":  func(r *impl.Request) { r.Metric = "\x00" },
		"Num":     func(r *impl.Request) { r.Num = -1 },
		"Samples": func(r *impl.Request) { r.Samples = []impl.Sample{{}} },
	}
	used := [][]string{
		impl.AskWrite: {"Tenant", "Samples"}, impl.AskTick: {"Num"}, impl.AskLimit: {"Tenant", "Metric", "Num"},
		impl.AskCheckpoint: {}, impl.AskCount: {"Tenant", "Metric"}, impl.AskDump: {"Tenant"},
	}
	for _, whole := range []bool{false, true} {
		for kind := impl.AskWrite; kind <= impl.AskDump; kind++ {
			for what, set := range sets {
				r := impl.Request{Kind: kind}
				for _, field := range used[kind] {
					if whole {
						sets[field](&r)
					}
				}
				set(&r)
				if slices.Contains(used[kind], what) {
					expectRequest(t, fmt.Sprint("kind ", kind, " with a ", what), r)
				} else {
					expectNoBytes(t, fmt.Sprint("kind ", kind, " with a ", what), r)
				}
			}
		}
	}
	for _, num := range []int{1, 1 << 40, math.MinInt} {
		for _, r := range []impl.Request{writeReq("a"), checkpointReq(), countReq("a", ""), dumpReq("a")} {
			r.Num = num
			expectNoBytes(t, fmt.Sprint("Num ", num), r)
		}
	}
}

func TestRequestTenants(t *testing.T) {
	for _, n := range []int{0, 1, 33, 254, 255, 256, 257, 512, 65536} {
		tenant := bytesLong(n)
		for _, r := range []impl.Request{writeReq(tenant), writeReq(tenant, nth("up", 1)), limitReq(tenant, "up", 1), countReq(tenant, ""), dumpReq(tenant)} {
			what := fmt.Sprint("kind ", r.Kind, ", a Tenant of ", n)
			if n <= 255 {
				expectRequest(t, what, r)
			} else {
				expectNoBytes(t, what, r)
			}
		}
	}
}

func TestRequestNames(t *testing.T) {
	for _, n := range []int{0, 1, 64, 65, 254, 255, 256, 257, 512, 65536} {
		for i, labels := range [][]impl.Label{{lab(bytesLong(n), "v")}, {metric("up"), lab(bytesLong(n), "")}, {lab(bytesLong(n), "v"), metric("up")}} {
			for j, r := range []impl.Request{writeReq("a", sampleOf(1, labels...)), writeReq("a", nth("up", 1), sampleOf(1, labels...)), writeReq("a", sampleOf(1, labels...), nth("up", 1))} {
				what := fmt.Sprint(i, j, ": a Name of ", n)
				if n <= 255 {
					expectRequest(t, what, r)
				} else {
					expectNoBytes(t, what, r)
				}
			}
		}
	}
}

// A request may have MaxRequest bytes and no more, so the longest texts that a length could tell don't fit in one.
func TestRequestSizes(t *testing.T) {
	for what, of := range map[string]func(text string) impl.Request{
		"a limit":       func(text string) impl.Request { return limitReq("a", text, 1) },
		"a count":       func(text string) impl.Request { return countReq("", text) },
		"a long tenant": func(text string) impl.Request { return countReq(bytesLong(255), text) },
		"a value":       func(text string) impl.Request { return writeReq("a", sampleOf(1, lab("n", text))) },
		"the last value": func(text string) impl.Request {
			return writeReq("a", nth("up", 1), sampleOf(1, metric("up"), lab("n", text)))
		},
		"the first one": func(text string) impl.Request {
			return writeReq("a", sampleOf(1, lab("n", text)), nth("up", 1), sampleOf(0))
		},
	} {
		fixed := len(handRequest(of("")))
		for _, n := range []int{0, 1, 255, 256, impl.MaxRequest - fixed - 1, impl.MaxRequest - fixed} {
			expectRequest(t, fmt.Sprint(what, ", ", n), of(bytesLong(n)))
		}
		for _, n := range []int{impl.MaxRequest - fixed + 1, impl.MaxRequest - fixed + 2, 60000, 60001, 65534, 65535, 65536, 65537, 131072} {
			expectNoBytes(t, fmt.Sprint(what, ", ", n), of(bytesLong(n)))
		}
	}
}

// samplesLong gives samples that have so many bytes in a request, together.
func samplesLong(size int) []impl.Sample {
	var all []impl.Sample
	for size > 600 {
		all = append(all, sampleOf(0, lab("n", bytesLong(287))))
		size -= 300
	}
	return append(all, sampleOf(0, lab("n", bytesLong(size-13))))
}

func TestRequestSizeOfManySamples(t *testing.T) {
	for by := -2; by <= 2; by++ {
		r := writeReq("a", samplesLong(impl.MaxRequest-5+by)...)
		if size := len(handRequest(r)); size != impl.MaxRequest+by {
			t.Fatalf("%d bytes", size)
		}
		if by <= 0 {
			expectRequest(t, fmt.Sprint("by ", by), r)
		} else {
			expectNoBytes(t, fmt.Sprint("by ", by), r)
			expectMalformed(t, fmt.Sprint("by ", by), handRequest(r))
		}
	}
}

func TestRequestSamples(t *testing.T) {
	for _, n := range []int{0, 1, 2, 255, 256, 257, impl.MaxBatch - 1, impl.MaxBatch} {
		expectRequest(t, fmt.Sprint(n, " samples"), writeReq("a", slices.Repeat([]impl.Sample{sampleOf(7, lab("n", "1"))}, n)...))
		expectRequest(t, fmt.Sprint(n, " bare samples"), writeReq("a", make([]impl.Sample, n)...))
	}
	for _, n := range []int{impl.MaxBatch + 1, impl.MaxBatch + 2, 1000, 65535, 65536, 65537} {
		r := writeReq("a", make([]impl.Sample, n)...)
		expectNoBytes(t, fmt.Sprint(n, " samples"), r)
		expectMalformed(t, fmt.Sprint(n, " samples"), "\x01\x01a"+bytesOf(min(n, 65535), 2)+strings.Repeat("\x00", 9*min(n, 65535)))
	}
}

func TestRequestLabels(t *testing.T) {
	for _, n := range []int{0, 1, 16, 17, 254, 255, 256, 257, 512, 513, 65536} {
		for i, labels := range [][]impl.Label{make([]impl.Label, n), slices.Repeat(list(lab("a", "b")), n)} {
			for j, r := range []impl.Request{writeReq("a", sampleOf(1, labels...)), writeReq("a", nth("up", 1), sampleOf(1, labels...)), writeReq("a", sampleOf(1, labels...), nth("up", 1))} {
				what := fmt.Sprint(i, j, ": ", n, " labels")
				if n <= 255 {
					expectRequest(t, what, r)
				} else {
					expectNoBytes(t, what, r)
				}
			}
		}
	}
}

// Lists that hold one text many times are small themselves, however long what one would write for them.
func TestRequestsThatAreVastWhenWritten(t *testing.T) {
	long := strings.Repeat("v", 1<<24)
	for _, l := range []impl.Label{lab("n", long[:65535]), lab("n", long[:65536]), lab("n", long), lab(long, ""), lab(long[:255], long[:60000])} {
		labels := slices.Repeat(list(l), 255)
		r := writeReq("a", slices.Repeat([]impl.Sample{sampleOf(1, labels...)}, impl.MaxBatch)...)
		if got := impl.EncodeRequest(r); got != "" {
			t.Errorf("%d bytes", len(got))
		}
		r.Samples[0].Labels = slices.Repeat(list(l), 1<<16)
		if got := impl.EncodeRequest(r); got != "" {
			t.Errorf("%d bytes", len(got))
		}
	}
}

func TestRequestBits(t *testing.T) {
	for i := range 64 {
		for _, n := range []int{1 << i, -1 << i, 1<<i - 1, ^(1 << i)} {
			what := fmt.Sprintf("%016x", uint64(n))
			expectRequest(t, "Bits "+what, writeReq("a", sampleOf(n, metric("up")), sampleOf(^n)))
			expectRequest(t, "Num "+what, tickReq(n))
			expectRequest(t, "Num "+what, limitReq("a", "", n))
		}
	}
}

func TestRequestsOfAllSortsOfBytes(t *testing.T) {
	odd := "\x00\xff\n\xc3é"
	for _, r := range []impl.Request{writeReq(odd, sampleOf(1, lab(odd, odd), lab(odd, odd))), limitReq(odd, odd, 1), countReq(odd, odd), dumpReq(odd)} {
		expectRequest(t, toldRequest(r), r)
	}
}

func TestEveryBeginningOfARequest(t *testing.T) {
	for _, r := range eachRequest() {
		text := handRequest(r)
		for n := range len(text) {
			expectMalformed(t, fmt.Sprint(n, " bytes"), text[:n])
		}
		for _, more := range []string{"\x00", "\x01", "x", text, text[1:] + "\x00", strings.Repeat("\x00", 300)} {
			expectMalformed(t, "bytes behind", text+more)
		}
		for _, more := range []string{"\x00", "\x04", "x", text} {
			expectMalformed(t, "bytes ahead", more+text)
		}
	}
}

func TestEveryByteOfARequestTurned(t *testing.T) {
	read, total := 0, 0
	for _, r := range eachRequest() {
		text := handRequest(r)
		for at := range len(text) {
			for b := range 256 {
				total++
				if expectRequestText(t, fmt.Sprintf("byte %d is %d", at, b), text[:at]+bytesOf(b, 1)+text[at+1:]) {
					read++
				}
			}
		}
	}
	if read < total/10 || read > total*9/10 {
		t.Errorf("%d of %d were read: the test is too tame", read, total)
	}
}

func TestRequestsThatPromiseMoreThanThereIs(t *testing.T) {
	sample := handSample(nth("up", 1))
	for what, text := range map[string]string{
		"samples, none there":       "\x01\x01a\xff\xff",
		"500 samples, one there":    "\x01\x01a\x01\xf4" + sample,
		"500 samples, 499 there":    "\x01\x01a\x01\xf4" + strings.Repeat(strings.Repeat("\x00", 9), 499),
		"501 samples, all there":    "\x01\x01a\x01\xf5" + strings.Repeat(strings.Repeat("\x00", 9), 501),
		"one sample, two there":     "\x01\x01a\x00\x01" + sample + sample,
		"no sample, one there":      "\x01\x01a\x00\x00" + sample,
		"two samples, one there":    "\x01\x01a\x00\x02" + sample,
		"255 labels, two there":     "\x01\x01a\x00\x01\xff" + sample[1:],
		"three labels, two there":   "\x01\x01a\x00\x01\x03" + sample[1:],
		"one label, two there":      "\x01\x01a\x00\x01\x01" + sample[1:],
		"a long name":               "\x01\x01a\x00\x01\x01\xffn\x00\x00\x00\x00\x00\x00\x00\x00\x00\x00",
		"a long value":              "\x01\x01a\x00\x01\x01\x01n\xff\xff\x00\x00\x00\x00\x00\x00\x00\x00",
		"a long tenant":             "\x01\xffa\x00\x00",
		"a long tenant of a limit":  "\x03\xffa\x00\x00\x00\x00\x00\x00\x00\x00\x00\x00",
		"a long metric of a limit":  "\x03\x01a\xff\xffup\x00\x00\x00\x00\x00\x00\x00\x01",
		"a long metric of a count":  "\x05\x01a\xff\xffup",
		"a longer metric by a byte": "\x05\x01a\x00\x03up",
		"a long tenant of a dump":   "\x06\xffa",
		"seven bytes of a number":   "\x02\x00\x00\x00\x00\x00\x00\x01",
		"nine bytes of a number":    "\x02\x00\x00\x00\x00\x00\x00\x00\x00\x01",
		"nothing":                   "",
	} {
		expectMalformed(t, what, text)
		expectRequestText(t, what, text)
	}
}

// request is of any kind, with fields of all sorts.
func (r *dice) request() impl.Request {
	q := impl.Request{Kind: 1 + r.below(6), Tenant: r.bytes(4), Metric: r.bytes(4), Num: r.below(1000) - 500}
	for range r.below(4) {
		s := impl.Sample{Bits: r.below(1000) - 500}
		for range r.below(4) {
			s.Labels = append(s.Labels, lab(r.bytes(3), r.bytes(5)))
		}
		q.Samples = append(q.Samples, s)
	}
	return q
}

func TestDecodeRequestAnswersAtEveryString(t *testing.T) {
	read, total := 0, 40000
	for seed := range total {
		r := dice(seed)
		text := r.bytes(30)
		switch seed % 4 {
		case 1:
			text = bytesOf(r.below(8), 1) + text
		case 2, 3:
			text = r.worn(handRequest(r.request()))
		}
		if expectRequestText(t, fmt.Sprint("seed ", seed), text) {
			read++
		}
	}
	if read < total/20 || read > total/2 {
		t.Errorf("%d of %d were read: the test is too tame", read, total)
	}
}

func TestEncodeRequestAgainstTheDecoder(t *testing.T) {
	written, total := 0, 20000
	for seed := range total {
		r := dice(seed)
		q := r.request()
		if r.below(3) > 0 {
			q, _ = modelRequest(handRequest(q))
		}
		back, ok := modelRequest(handRequest(q))
		if ok && sameRequest(back, q) {
			written++
			expectRequest(t, fmt.Sprint("seed ", seed), q)
		} else {
			expectNoBytes(t, fmt.Sprint("seed ", seed), q)
		}
	}
	if written < total/2 || written == total {
		t.Errorf("%d of %d were written: the test is too tame", written, total)
	}
}
