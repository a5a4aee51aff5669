package tests

import (
	"fmt"
	"math"
	"slices"
	"strings"
	"testing"

	"loop.example/s02176/impl"
)

func (r *cursor) tenant() impl.Tenant {
	t := impl.Tenant{Name: r.text(1)}
	t.Limit = r.num(8)
	for n := r.num(4); n > 0 && r.ok; n-- {
		m := impl.MetricLimit{Metric: r.text(2)}
		m.Limit = r.num(8)
		t.Metrics = append(t.Metrics, m)
	}
	for n := r.num(4); n > 0 && r.ok; n-- {
		x := impl.Series{Key: r.text(2)}
		x.Last = r.num(8)
		t.Series = append(t.Series, x)
	}
	return t
}

// modelCkpt is DecodeState once more, with the CRC asked for first.
func modelCkpt(c impl.Config, text string) (int, impl.State, bool) {
	if len(text) < 4 || withCrc(text[:len(text)-4]) != text || !strings.HasPrefix(text, "CKPT") {
		return 0, impl.State{}, false
	}
	r := cursor{text[4 : len(text)-4], true}
	lsn := r.num(8)
	s := impl.State{Now: r.num(8)}
	for n := r.num(4); n > 0 && r.ok; n-- {
		s.Tenants = append(s.Tenants, r.tenant())
	}
	if !r.ok || r.rest != "" || lsn < 0 || lsn > 1000000000000000 || !impl.StateOK(c, s) {
		return 0, impl.State{}, false
	}
	return lsn, s, true
}

// expectCkptText asks for what the document says of this text, under every hashing.
func expectCkptText(t *testing.T, what string, c impl.Config, text string) bool {
	t.Helper()
	lsn, s, wanted := modelCkpt(c, text)
	for _, k := range hashings(c) {
		gotLsn, got, ok := impl.DecodeState(k, text)
		if ok != wanted || gotLsn != lsn || !sameState(got, s) {
			t.Errorf("%s: %.80q is read as %d, %s, %v, not %d, %s, %v", what, text, gotLsn, told(got), ok, lsn, told(s), wanted)
		}
		if ok && impl.EncodeState(gotLsn, got) != text {
			t.Errorf("%s: %.80q is written as %.80q", what, text, impl.EncodeState(gotLsn, got))
		}
	}
	return wanted
}

// expectNoCkpt asks that there is nothing in the text.
func expectNoCkpt(t *testing.T, what string, c impl.Config, text string) {
	t.Helper()
	if lsn, s, ok := impl.DecodeState(c, text); ok || lsn != 0 || !sameState(s, impl.State{}) {
		t.Errorf("%s: %.80q is read as %d, %s, %v", what, text, lsn, told(s), ok)
	}
}

// expectEncoded asks that the state has just this encoding, and is as it was.
func expectEncoded(t *testing.T, what string, lsn int, s impl.State, text string) {
	t.Helper()
	before := cloneState(s)
	if got := impl.EncodeState(lsn, s); got != text {
		t.Errorf("%s: %.80q, not %.80q", what, got, text)
	}
	if !sameState(s, before) {
		t.Errorf("%s: the argument became %s, was %s", what, told(s), told(before))
	}
}

// expectCkpt asks that a state that is OK is written as one would by hand, and comes back.
func expectCkpt(t *testing.T, what string, c impl.Config, lsn int, s impl.State) {
	t.Helper()
	text := handState(lsn, s)
	expectEncoded(t, what, lsn, s, text)
	if gotLsn, got, ok := impl.DecodeState(c, text); !ok || gotLsn != lsn || !sameState(got, s) {
		t.Errorf("%s: %d, %s, %v, not %d, %s", what, gotLsn, told(got), ok, lsn, told(s))
	}
}

func TestCheckpointBytes(t *testing.T) {
	s := stateAt(0x0102, filled(held("ab", -1, most("up", 3)), seenAt(0x0100, "key")), held("c", 7))
	text := "CKPT" + "\x00\x00\x00\x00\x00\x00\x00\x09" + "\x00\x00\x00\x00\x00\x00\x01\x02" + "\x00\x00\x00\x02" +
		"\x02ab" + "\xff\xff\xff\xff\xff\xff\xff\xff" + "\x00\x00\x00\x01" + "\x00\x02up" + "\x00\x00\x00\x00\x00\x00\x00\x03" +
		"\x00\x00\x00\x01" + "\x00\x03key" + "\x00\x00\x00\x00\x00\x00\x01\x00" +
		"\x01c" + "\x00\x00\x00\x00\x00\x00\x00\x07" + "\x00\x00\x00\x00" + "\x00\x00\x00\x00"
	expectEncoded(t, "two tenants", 9, s, text+bytesOf(impl.Crc32c(text), 4))
	expectEncoded(t, "nothing", 0, impl.State{}, "CKPT"+strings.Repeat("\x00", 20)+bytesOf(impl.Crc32c("CKPT"+strings.Repeat("\x00", 20)), 4))
}

func TestCheckpointsThereAndBack(t *testing.T) {
	for what, s := range okStates() {
		for _, lsn := range []int{0, 1, 258, impl.MaxLsn} {
			expectCkpt(t, what, plainConfig(), lsn, s)
		}
	}
	for _, c := range hashings(plainConfig()) {
		expectCkpt(t, fmt.Sprint(c), c, 3, three())
	}
}

func TestCheckpointLsn(t *testing.T) {
	for _, lsn := range []int{0, 1, 2, 255, 256, impl.MaxLsn - 1, impl.MaxLsn} {
		expectCkpt(t, fmt.Sprint("lsn ", lsn), plainConfig(), lsn, three())
		expectCkpt(t, fmt.Sprint("lsn ", lsn, " of nothing"), plainConfig(), lsn, impl.State{})
	}
	for _, lsn := range []int{-1, -2, impl.MaxLsn + 1, impl.MaxLsn + 2, math.MaxInt, math.MinInt} {
		expectEncoded(t, fmt.Sprint("lsn ", lsn), lsn, three(), "")
		expectEncoded(t, fmt.Sprint("lsn ", lsn, " of nothing"), lsn, impl.State{}, "")
		expectNoCkpt(t, fmt.Sprint("lsn ", lsn), plainConfig(), handState(lsn, three()))
		expectNoCkpt(t, fmt.Sprint("lsn ", lsn, " of nothing"), plainConfig(), handState(lsn, impl.State{}))
	}
}

// longTexts has a state with texts of n bytes, one each for Name, Metric and Key, behind others that are short.
func longTexts(n int) [3]impl.State {
	long := bytesLong(n)
	return [3]impl.State{
		stateAt(1, held("a", 1), held(long, 1)),
		stateAt(1, held("a", 1), held("b", 1, most("m", 1), most(long, 1)), held("c", 1)),
		stateAt(1, held("a", 1), filled(held("b", 1), seenAt(1, "k"), seenAt(1, long)), held("c", 1)),
	}
}

func TestCheckpointTexts(t *testing.T) {
	for i, longest := range []int{255, 65535, 65535} {
		for _, n := range []int{0, 1, 255, longest - 1, longest} {
			s := longTexts(n)[i]
			expectEncoded(t, fmt.Sprintf("text %d of %d bytes", i, n), 1, s, handState(1, s))
		}
		for _, n := range []int{longest + 1, longest + 2, 2 * (longest + 1)} {
			s := longTexts(n)[i]
			expectEncoded(t, fmt.Sprintf("text %d of %d bytes", i, n), 1, s, "")
			expectNoCkpt(t, fmt.Sprintf("text %d of %d bytes", i, n), plainConfig(), handState(1, s))
		}
	}
}

func hasLongText(s impl.State) bool {
	return slices.ContainsFunc(s.Tenants, func(t impl.Tenant) bool {
		return len(t.Name) > 255 ||
			slices.ContainsFunc(t.Metrics, func(m impl.MetricLimit) bool { return len(m.Metric) > 65535 }) ||
			slices.ContainsFunc(t.Series, func(x impl.Series) bool { return len(x.Key) > 65535 })
	})
}

// What isn't OK has an encoding all the same, but isn't read.
func TestCheckpointsOfStatesThatAreNotOK(t *testing.T) {
	for what, s := range notOKStates() {
		text := handState(1, s)
		expectNoCkpt(t, what, plainConfig(), text)
		if hasLongText(s) {
			text = ""
		}
		expectEncoded(t, what, 1, s, text)
	}
	odd := stateAt(-5, filled(held("", -7, most("", math.MinInt)), seenAt(math.MaxInt, "")), held("", 0))
	expectEncoded(t, "odd", 1, odd, handState(1, odd))
	expectNoCkpt(t, "odd", plainConfig(), handState(1, odd))
}

func TestCheckpointsOfAnotherConfig(t *testing.T) {
	c, s := plainConfig(), stateAt(20, owner("a", seenAt(12, keyNo("up", 1))))
	for _, c.Window = range []int{9, 10, impl.MaxWindow} {
		expectCkpt(t, fmt.Sprint("Window ", c.Window), c, 1, s)
	}
	for _, c.Window = range []int{1, 7, 8} {
		expectNoCkpt(t, fmt.Sprint("Window ", c.Window), c, handState(1, s))
	}
	for _, k := range wrongConfigs(plainConfig()) {
		expectNoCkpt(t, fmt.Sprint(k), k, handState(1, s))
		expectNoCkpt(t, fmt.Sprint(k), k, handState(0, impl.State{}))
	}
	k := impl.Config{Window: impl.MaxWindow, Shards: 1, Segment: 100}
	expectCkpt(t, "limits of 0", k, 1, s)
}

func TestEveryBeginningOfACheckpoint(t *testing.T) {
	c, bare := plainConfig(), bareState(7, three())
	text := withCrc(bare)
	for n := range len(text) {
		expectNoCkpt(t, fmt.Sprint(n, " bytes"), c, text[:n])
	}
	for n := range len(bare) {
		expectNoCkpt(t, fmt.Sprint(n, " bytes and a CRC"), c, withCrc(bare[:n]))
	}
	for _, more := range []string{"\x00", "x", "\x00\x00\x00\x00", text, text[4:], bare} {
		expectNoCkpt(t, "bytes behind", c, text+more)
		expectNoCkpt(t, "bytes behind and a CRC", c, withCrc(bare+more))
		expectNoCkpt(t, "bytes ahead", c, more+text)
		expectNoCkpt(t, "bytes ahead and a CRC", c, withCrc(more+bare))
	}
}

func TestEveryByteOfACheckpointTurned(t *testing.T) {
	c, bare := plainConfig(), bareState(7, three())
	text, read := withCrc(bare), 0
	for at := range len(text) {
		for _, by := range []byte{1, 2, 4, 8, 16, 32, 64, 128, 255} {
			turned := text[:at] + string([]byte{text[at] ^ by}) + text[at+1:]
			expectNoCkpt(t, fmt.Sprintf("byte %d turned by %d", at, by), c, turned)
			if at < len(bare) && expectCkptText(t, fmt.Sprintf("byte %d turned by %d, with a CRC", at, by), c, withCrc(turned[:len(bare)])) {
				read++
			}
		}
	}
	if read == 0 {
		t.Error("none was read: the test is too tame")
	}
}

func TestCheckpointsWithCountsThatAreOff(t *testing.T) {
	c, bare := plainConfig(), bareState(7, stateAt(5, filled(held("a", 1, most("up", 1)), seenAt(5, keyNo("up", 1)))))
	for what, at := range map[string]int{"tenants": 20, "metrics": 34, "series": 50} {
		if bare[at:at+4] != "\x00\x00\x00\x01" {
			t.Fatalf("%s: %q", what, bare[at:])
		}
		for _, count := range []int{0, 2, 3, 65537, 1 << 24, 1 << 31, 1<<32 - 1} {
			expectNoCkpt(t, fmt.Sprint(what, " ", count), c, withCrc(bare[:at]+bytesOf(count, 4)+bare[at+4:]))
		}
	}
}

func (r *dice) state(c impl.Config) impl.State {
	var all []impl.Rec
	for range r.below(12) {
		all = append(all, r.likelyRec(c.Window))
	}
	s := impl.State{}
	for _, one := range all {
		if next, ok := impl.ApplyRecs(c, s, recs(one)); ok {
			s = next
		}
	}
	return s
}

func TestDecodeStateAnswersAtEveryString(t *testing.T) {
	c, read, total := plainConfig(), 0, 6000
	for seed := range total {
		r := dice(seed)
		text := r.bytes(60)
		switch seed % 4 {
		case 1:
			text = "CKPT" + text
		case 2:
			text = r.worn(handState(r.below(3), r.state(c)))
		case 3:
			text = withCrc(r.worn(bareState(r.below(3), r.state(c))))
		}
		if expectCkptText(t, fmt.Sprint("seed ", seed), c, text) {
			read++
		}
	}
	if read < total/20 || read > total/2 {
		t.Errorf("%d of %d were read: the test is too tame", read, total)
	}
}

func TestDecodeStateGivesNewMemory(t *testing.T) {
	text := handState(7, three())
	_, first, _ := impl.DecodeState(plainConfig(), text)
	_, second, _ := impl.DecodeState(plainConfig(), text)
	scribbleApart(t, "a checkpoint", first)
	scribbleState(first)
	if !sameState(second, three()) {
		t.Errorf("a second answer became %s", told(second))
	}
	expectCkpt(t, "after a scribble", plainConfig(), 7, three())
}
