package tests

import (
	"fmt"
	"math"
	"slices"
	"strings"
	"testing"

	"loop.example/s02176/impl"
)

// cursor reads an encoding; at the first thing that is missing it stops being ok.
type cursor struct {
	rest string
	ok   bool
}

func (r *cursor) bytes(n int) string {
	if !r.ok || n > len(r.rest) {
		r.ok = false
		return ""
	}
	taken := r.rest[:n]
	r.rest = r.rest[n:]
	return taken
}

func (r *cursor) num(width int) int {
	n := uint64(0)
	for _, b := range []byte(r.bytes(width)) {
		n = n*256 + uint64(b)
	}
	return int(n)
}

func (r *cursor) text(width int) string { return r.bytes(r.num(width)) }

// recWritten tells whether a record that was read is one that is written.
func recWritten(r impl.Rec) bool {
	switch r.Kind {
	case 1:
		return r.Num == 0
	case 2:
		return r.Tenant == "" && r.Text == ""
	}
	return r.Kind == 3
}

// modelBatch is DecodeBatch once more.
func modelBatch(s string) (impl.Batch, bool) {
	r := cursor{s, true}
	b := impl.Batch{Lsn: r.num(8)}
	count := r.num(2)
	if count < 1 || count > 500 || b.Lsn < 1 || b.Lsn > 1000000000000000 {
		return impl.Batch{}, false
	}
	for range count {
		rec := impl.Rec{Kind: r.num(1)}
		rec.Tenant = r.text(1)
		rec.Text = r.text(2)
		rec.Num = r.num(8)
		if !r.ok || !recWritten(rec) {
			return impl.Batch{}, false
		}
		b.Recs = append(b.Recs, rec)
	}
	if r.rest != "" {
		return impl.Batch{}, false
	}
	return b, true
}

// expectBatch asks that the batch has just this encoding, comes back from it, and is as it was.
func expectBatch(t *testing.T, what string, b impl.Batch, text string) {
	t.Helper()
	before := impl.Batch{Lsn: b.Lsn, Recs: slices.Clone(b.Recs)}
	if got := impl.EncodeBatch(b); got != text {
		t.Errorf("%s: %.80q, not %.80q", what, got, text)
	}
	if back, ok := impl.DecodeBatch(text); !ok || !sameBatch(back, b) {
		t.Errorf("%s: %.200q is read as %v, %.200q", what, text, ok, fmt.Sprint(back))
	}
	if !sameBatch(b, before) {
		t.Errorf("%s: the argument became %v, was %v", what, b, before)
	}
}

// expectNoText asks that the batch has no encoding, and that what one could write by hand for it is not read.
func expectNoText(t *testing.T, what string, b impl.Batch) {
	t.Helper()
	before := impl.Batch{Lsn: b.Lsn, Recs: slices.Clone(b.Recs)}
	if got := impl.EncodeBatch(b); got != "" {
		t.Errorf("%s: %.80q", what, got)
	}
	if !sameBatch(b, before) {
		t.Errorf("%s: the argument became %v, was %v", what, b, before)
	}
	expectBatchText(t, what, handBatch(b))
}

// expectBatchText asks for what the document says of this text.
func expectBatchText(t *testing.T, what, text string) bool {
	t.Helper()
	want, wanted := modelBatch(text)
	got, ok := impl.DecodeBatch(text)
	if ok != wanted || !sameBatch(got, want) {
		t.Errorf("%s: %.80q is read as %v, %.200q, not %v", what, text, ok, fmt.Sprint(got), wanted)
	}
	if ok && impl.EncodeBatch(got) != text {
		t.Errorf("%s: %.80q is read as %.200q, which is written as %.80q", what, text, fmt.Sprint(got), impl.EncodeBatch(got))
	}
	return ok
}

// expectNotRead asks that there is nothing in the text.
func expectNotRead(t *testing.T, what, text string) {
	t.Helper()
	if b, ok := impl.DecodeBatch(text); ok || !sameBatch(b, impl.Batch{}) {
		t.Errorf("%s: %.80q is read as %v, %.200q", what, text, ok, fmt.Sprint(b))
	}
}

// ofEachKind has a record of each kind.
func ofEachKind() impl.Batch {
	return batch(258, seriesRec("acme", "a key"), tickRec(3), limitRec("b", "up", -1), limitRec("c", "", 7))
}

func TestBatchBytes(t *testing.T) {
	expectBatch(t, "a series", batch(1, seriesRec("ab", "key")), "\x00\x00\x00\x00\x00\x00\x00\x01\x00\x01"+"\x01\x02ab\x00\x03key\x00\x00\x00\x00\x00\x00\x00\x00")
	expectBatch(t, "a tick", batch(0x0102030405, tickRec(0x0807060504030201)), "\x00\x00\x00\x01\x02\x03\x04\x05\x00\x01"+"\x02\x00\x00\x00\x08\x07\x06\x05\x04\x03\x02\x01")
	expectBatch(t, "a limit", batch(1, limitRec("a", "up", -2)), "\x00\x00\x00\x00\x00\x00\x00\x01\x00\x01"+"\x03\x01a\x00\x02up\xff\xff\xff\xff\xff\xff\xff\xfe")
	expectBatch(t, "each kind", ofEachKind(), handBatch(ofEachKind()))
}

func TestBatchLsn(t *testing.T) {
	for _, lsn := range []int{1, 2, 255, 256, impl.MaxLsn - 1, impl.MaxLsn} {
		b := batch(lsn, tickRec(1))
		expectBatch(t, fmt.Sprint("Lsn ", lsn), b, handBatch(b))
	}
	for _, lsn := range []int{0, -1, impl.MaxLsn + 1, math.MaxInt, math.MinInt} {
		expectNoText(t, fmt.Sprint("Lsn ", lsn), batch(lsn, tickRec(1)))
		expectNotRead(t, fmt.Sprint("Lsn ", lsn), handBatch(batch(lsn, tickRec(1))))
	}
}

func TestBatchLength(t *testing.T) {
	for _, n := range []int{1, 2, 255, 256, 257, impl.MaxBatch - 1, impl.MaxBatch} {
		b := batch(1, slices.Repeat(recs(limitRec("a", "up", 1)), n)...)
		expectBatch(t, fmt.Sprint(n, " records"), b, handBatch(b))
	}
	for _, n := range []int{0, impl.MaxBatch + 1, impl.MaxBatch + 2, 1000, 65535, 65536, 65537} {
		b := batch(1, slices.Repeat(recs(tickRec(1)), n)...)
		expectNoText(t, fmt.Sprint(n, " records"), b)
		expectNotRead(t, fmt.Sprint(n, " records"), handBatch(b))
	}
}

func TestBatchKinds(t *testing.T) {
	for _, kind := range []int{0, 4, 5, 255, 256, 257, 258, 259, -1, -253, -255, math.MaxInt, math.MinInt, math.MinInt + 1} {
		for _, r := range recs(impl.Rec{Kind: kind}, impl.Rec{Kind: kind, Num: 1}, impl.Rec{Kind: kind, Tenant: "a", Text: "up"}) {
			for _, all := range [][]impl.Rec{{r}, {tickRec(1), r}, {r, tickRec(1)}, {tickRec(1), r, tickRec(1)}} {
				expectNoText(t, fmt.Sprint("kind ", kind), batch(1, all...))
			}
		}
	}
}

func TestBatchTexts(t *testing.T) {
	for _, n := range []int{0, 1, 33, 254, 255} {
		for _, r := range recs(seriesRec(bytesLong(n), "key"), limitRec(bytesLong(n), "up", 1)) {
			expectBatch(t, fmt.Sprint("a Tenant of ", n), batch(1, r, tickRec(1)), handBatch(batch(1, r, tickRec(1))))
		}
	}
	for _, n := range []int{256, 257, 512, 65536} {
		for _, r := range recs(seriesRec(bytesLong(n), "key"), limitRec(bytesLong(n), "up", 1)) {
			expectNoText(t, fmt.Sprint("a Tenant of ", n), batch(1, tickRec(1), r))
		}
	}
	for _, n := range []int{0, 1, 255, 256, 60001, 65534, 65535} {
		for _, r := range recs(seriesRec("a", bytesLong(n)), limitRec("a", bytesLong(n), 1)) {
			expectBatch(t, fmt.Sprint("a Text of ", n), batch(1, r, tickRec(1)), handBatch(batch(1, r, tickRec(1))))
		}
	}
	for _, n := range []int{65536, 65537, 131072} {
		for _, r := range recs(seriesRec("a", bytesLong(n)), limitRec("a", bytesLong(n), 1)) {
			expectNoText(t, fmt.Sprint("a Text of ", n), batch(1, tickRec(1), r))
		}
	}
	odd := "\x00\xff\n\xc3é"
	expectBatch(t, "bytes of all sorts", batch(1, seriesRec(odd, odd), limitRec(odd, odd, 0)), handBatch(batch(1, seriesRec(odd, odd), limitRec(odd, odd, 0))))
}

func TestBatchNumbers(t *testing.T) {
	for _, num := range []int{0, 1, -1, 255, 256, -256, impl.MaxClock, math.MaxInt, math.MinInt} {
		for _, r := range recs(tickRec(num), limitRec("a", "up", num), limitRec("", "", num)) {
			expectBatch(t, fmt.Sprint("Num ", num), batch(1, r), handBatch(batch(1, r)))
		}
	}
}

func TestBatchFieldsThatMustBeEmpty(t *testing.T) {
	for i, r := range recs(
		impl.Rec{Kind: impl.RecSeries, Tenant: "a", Text: "key", Num: 1},
		impl.Rec{Kind: impl.RecSeries, Tenant: "a", Text: "key", Num: -1},
		impl.Rec{Kind: impl.RecSeries, Num: math.MinInt},
		impl.Rec{Kind: impl.RecSeries, Num: 1 << 32},
		impl.Rec{Kind: impl.RecTick, Tenant: "a"},
		impl.Rec{Kind: impl.RecTick, Tenant: "a", Num: 1},
		impl.Rec{Kind: impl.RecTick, Tenant: "\x00", Num: 1},
		impl.Rec{Kind: impl.RecTick, Text: "a", Num: 1},
		impl.Rec{Kind: impl.RecTick, Text: "\x00"},
		impl.Rec{Kind: impl.RecTick, Tenant: "a", Text: "up", Num: 1},
	) {
		for _, all := range [][]impl.Rec{{r}, {tickRec(1), r}, {r, tickRec(1)}} {
			expectNoText(t, fmt.Sprint("record ", i), batch(1, all...))
			expectNotRead(t, fmt.Sprint("record ", i), handBatch(batch(1, all...)))
		}
	}
}

func TestEveryBeginningOfABatch(t *testing.T) {
	text := handBatch(ofEachKind())
	for n := range len(text) {
		expectNotRead(t, fmt.Sprint(n, " bytes"), text[:n])
	}
	for _, more := range []string{"\x00", "\x01", "x", text, text[10:], strings.Repeat("\x00", 300)} {
		expectNotRead(t, "bytes behind", text+more)
		expectNotRead(t, "bytes ahead", more+text)
	}
}

func TestEveryByteOfABatchTurned(t *testing.T) {
	text, read := handBatch(ofEachKind()), 0
	for at := range len(text) {
		for b := range 256 {
			turned := text[:at] + bytesOf(b, 1) + text[at+1:]
			if expectBatchText(t, fmt.Sprintf("byte %d is %d", at, b), turned) {
				read++
			}
		}
	}
	if read <= len(text) || read == 256*len(text) {
		t.Errorf("%d were read: the test is too tame", read)
	}
}

func (r *dice) rec() impl.Rec {
	switch r.below(10) {
	case 0:
		return impl.Rec{Kind: r.below(6) - 1, Tenant: r.bytes(2), Text: r.bytes(2), Num: r.below(3) - 1}
	case 1, 2, 3:
		return tickRec(r.below(1000) - 500)
	case 4, 5, 6:
		return limitRec(r.bytes(5), r.bytes(5), r.below(1000)-500)
	}
	return seriesRec(r.bytes(5), r.bytes(9))
}

// worn gives the text with some of its bytes turned, cut off, or added.
func (r *dice) worn(text string) string {
	bytes := []byte(text)
	for range r.below(3) {
		bytes[r.below(len(bytes))] = byte(r.below(256))
	}
	switch r.below(8) {
	case 0:
		return string(bytes[:r.below(len(bytes))])
	case 1:
		return string(bytes) + r.bytes(4)
	}
	return string(bytes)
}

func TestDecodeBatchAnswersAtEveryString(t *testing.T) {
	read, total := 0, 20000
	for seed := range total {
		r := dice(seed)
		text := r.bytes(40)
		if seed%4 != 0 {
			b := impl.Batch{Lsn: r.below(5)}
			for range r.below(6) {
				b.Recs = append(b.Recs, r.rec())
			}
			text = r.worn(handBatch(b))
		}
		if expectBatchText(t, fmt.Sprint("seed ", seed), text) {
			read++
		}
	}
	if read < total/20 || read > total/2 {
		t.Errorf("%d of %d were read: the test is too tame", read, total)
	}
}

func TestDecodeBatchGivesNewMemory(t *testing.T) {
	text := handBatch(ofEachKind())
	first, _ := impl.DecodeBatch(text)
	scribble(first.Recs, tickRec(77))
	expectBatch(t, "after a scribble", ofEachKind(), text)
}
