package tests

import (
	"encoding/binary"
	"fmt"
	"hash/crc32"
	"math"
	"slices"
	"strings"
	"testing"

	"loop.example/s02176/impl"
)

// bytes gives up to most bytes of any value.
func (r *dice) bytes(most int) string {
	out := make([]byte, r.below(most+1))
	for i := range out {
		out[i] = byte(r.below(256))
	}
	return string(out)
}

// handFrame makes a frame with any length in its head, and a CRC that is right for the body.
func handFrame(size uint32, body string) string {
	head := binary.BigEndian.AppendUint32(nil, size)
	head = binary.BigEndian.AppendUint32(head, crc32.Checksum([]byte(body), crc32.MakeTable(crc32.Castagnoli)))
	return string(head) + body
}

func expectScan(t *testing.T, what, data string, size int, payloads ...string) {
	t.Helper()
	got, n := impl.Scan(data)
	if !slices.Equal(got, payloads) || n != size {
		t.Errorf("%s: %d payloads in %d bytes (%.60q), not %d in %d", what, len(got), n, got, len(payloads), size)
	}
}

func TestCrc32c(t *testing.T) {
	known := map[string]int{
		"":                         0,
		"a":                        0xC1D04330,
		"123456789":                3808858755,
		strings.Repeat("\x00", 32): 0x8A9136AA,
		strings.Repeat("\xff", 32): 0x62A8AB43,
	}
	for s, want := range known {
		if got := impl.Crc32c(s); got != want {
			t.Errorf("%q: %d, not %d", s, got, want)
		}
	}
	table := crc32.MakeTable(crc32.Castagnoli)
	for b := range 256 {
		s := string([]byte{byte(b)})
		if got, want := impl.Crc32c(s), int(crc32.Checksum([]byte(s), table)); got != want {
			t.Errorf("%q: %d, not %d", s, got, want)
		}
	}
	r := dice(1)
	for range 500 {
		s := r.bytes(300)
		if got, want := impl.Crc32c(s), int(crc32.Checksum([]byte(s), table)); got != want {
			t.Errorf("%q: %d, not %d", s, got, want)
		}
	}
}

func TestFrame(t *testing.T) {
	if got := impl.Frame("123456789"); got != "\x00\x00\x00\x09\xe3\x06\x92\x83123456789" {
		t.Errorf("%q", got)
	}
	for _, n := range []int{1, 2, 255, 256, 257, 59999, impl.MaxPayload} {
		p := bytesLong(n)
		if got := impl.Frame(p); got != handFrame(uint32(n), p) || len(got) != impl.FrameHead+n {
			t.Errorf("%d bytes: a frame of %d that begins with %.12q", n, len(got), got)
		}
	}
	for _, n := range []int{0, impl.MaxPayload + 1, 100000} {
		if got := impl.Frame(bytesLong(n)); got != "" {
			t.Errorf("%d bytes: a frame of %d", n, len(got))
		}
	}
}

func TestScanOfFramesAndABeginning(t *testing.T) {
	expectScan(t, "nothing", "", 0)
	expectScan(t, "the least and the greatest", framesOf("a", bytesLong(impl.MaxPayload), "b"), 60026, "a", bytesLong(impl.MaxPayload), "b")
	whole := framesOf("one", "\x00", "one")
	more := impl.Frame("the one that is torn")
	for cut := range len(more) {
		expectScan(t, fmt.Sprintf("a beginning of %d bytes", cut), whole+more[:cut], len(whole), "one", "\x00", "one")
		expectScan(t, fmt.Sprintf("a beginning of %d bytes alone", cut), more[:cut], 0)
	}
	expectScan(t, "all of it", whole+more, len(whole)+len(more), "one", "\x00", "one", "the one that is torn")
	long := impl.Frame(bytesLong(impl.MaxPayload))
	for _, cut := range []int{1, impl.FrameHead, len(long) / 2, len(long) - 1} {
		expectScan(t, fmt.Sprintf("%d bytes of a long one", cut), whole+long[:cut], len(whole), "one", "\x00", "one")
	}
}

func TestScanOfATurnedByte(t *testing.T) {
	ahead, behind := framesOf("ahead"), framesOf("behind", "and more")
	frame := impl.Frame("payload")
	for i := range len(frame) {
		for bit := range 8 {
			turned := []byte(frame)
			turned[i] ^= 1 << bit
			expectScan(t, fmt.Sprintf("byte %d, bit %d", i, bit), ahead+string(turned)+behind, len(ahead), "ahead")
		}
	}
}

func TestScanOfLengthsThatAreNone(t *testing.T) {
	ahead := framesOf("ahead")
	for n := range 40 {
		zeros := strings.Repeat("\x00", n)
		expectScan(t, fmt.Sprintf("%d zeros", n), zeros, 0)
		expectScan(t, fmt.Sprintf("%d zeros behind a frame", n), ahead+zeros, len(ahead), "ahead")
		expectScan(t, fmt.Sprintf("%d zeros ahead of a frame", n+1), zeros+"\x00"+ahead, 0)
	}
	expectScan(t, "a length of 0", ahead+handFrame(0, "")+ahead, len(ahead), "ahead")
	over := bytesLong(impl.MaxPayload + 1)
	expectScan(t, "MaxPayload + 1", ahead+handFrame(impl.MaxPayload+1, over)+ahead, len(ahead), "ahead")
	expectScan(t, "the greatest length", ahead+handFrame(math.MaxUint32, over), len(ahead), "ahead")
	expectScan(t, "the length that is negative in 32 bits", ahead+handFrame(1<<31, over), len(ahead), "ahead")
	expectScan(t, "a length with its bytes turned round", ahead+handFrame(1<<24, "a"), len(ahead), "ahead")
	expectScan(t, "a length of one byte more than there is", ahead+handFrame(4, "abc"), len(ahead), "ahead")
	expectScan(t, "a length of one byte less", ahead+handFrame(2, "abc"), len(ahead), "ahead")
}

func TestScanAnswersAtEveryString(t *testing.T) {
	for seed := range 300 {
		r := dice(seed)
		data := ""
		var payloads []string
		for range r.below(6) {
			p := r.bytes(20) + "."
			payloads = append(payloads, p)
			data += impl.Frame(p)
		}
		torn := impl.Frame(r.bytes(20) + ".")
		expectScan(t, fmt.Sprintf("seed %d", seed), data+torn[:r.below(len(torn))], len(data), payloads...)
		junk := r.bytes(60)
		got, n := impl.Scan(junk)
		if n > len(junk) || framesOf(got...) != junk[:n] {
			t.Errorf("%q: %q in %d bytes", junk, got, n)
		}
	}
}

func TestSegmentName(t *testing.T) {
	names := map[int]string{
		1:                "wal-000001",
		9:                "wal-000009",
		10:               "wal-000010",
		123:              "wal-000123",
		4567:             "wal-004567",
		99999:            "wal-099999",
		100000:           "wal-100000",
		impl.MaxSegments: "wal-999999",
	}
	for _, n := range []int{0, -1, impl.MaxSegments + 1, -1000000, 1000001, math.MaxInt, math.MinInt} {
		names[n] = ""
	}
	for n, want := range names {
		if got := impl.SegmentName(n); got != want {
			t.Errorf("%d: %q, not %q", n, got, want)
		}
	}
	for n := 1; n <= impl.MaxSegments; n += 997 {
		if got := impl.SegmentName(n); got != fmt.Sprintf("wal-%06d", n) {
			t.Errorf("%d: %q", n, got)
		}
	}
}
