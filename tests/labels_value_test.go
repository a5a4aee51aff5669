package tests

import (
	"fmt"
	"strings"
	"testing"

	"loop.example/s02176/impl"
)

// runesOf reads UTF-8 by the words of the document: the form of each rune, the shortest one, and what is no rune.
func runesOf(s string) ([]int, bool) {
	var runes []int
	for len(s) > 0 {
		size, n, least := 0, 0, 0
		switch b := int(s[0]); {
		case b < 0x80:
			size, n, least = 1, b, 0
		case b>>5 == 0b110:
			size, n, least = 2, b&0x1f, 0x80
		case b>>4 == 0b1110:
			size, n, least = 3, b&0x0f, 0x800
		case b>>3 == 0b11110:
			size, n, least = 4, b&0x07, 0x10000
		default:
			return nil, false
		}
		if len(s) < size {
			return nil, false
		}
		for _, b := range []byte(s[1:size]) {
			if b>>6 != 0b10 {
				return nil, false
			}
			n = n<<6 | int(b&0x3f)
		}
		if n < least || n >= 0xD800 && n <= 0xDFFF || n > 0x10FFFF {
			return nil, false
		}
		runes, s = append(runes, n), s[size:]
	}
	return runes, true
}

// codeOf is what the document says of a value.
func codeOf(value string) int {
	runes, ok := runesOf(value)
	if !ok {
		return impl.LabelsUtf8
	}
	if len(runes) > impl.MaxValue {
		return impl.LabelsLong
	}
	for _, r := range runes {
		if r <= 31 || r >= 127 && r <= 159 {
			return impl.LabelsControl
		}
	}
	return impl.LabelsOK
}

func expectValue(t *testing.T, value string, code int) {
	t.Helper()
	expectCode(t, fmt.Sprintf("%.60q", value), lab("a", value), code)
}

func TestLongValues(t *testing.T) {
	for _, r := range []string{"v", "é", "€", "\U0001F600"} {
		expectValue(t, strings.Repeat(r, impl.MaxValue-1), impl.LabelsOK)
		expectValue(t, strings.Repeat(r, impl.MaxValue), impl.LabelsOK)
		expectValue(t, strings.Repeat(r, impl.MaxValue+1), impl.LabelsLong)
		expectValue(t, strings.Repeat(r, impl.MaxValue*4), impl.LabelsLong)
		expectValue(t, "v"+strings.Repeat(r, impl.MaxValue-1), impl.LabelsOK)
		expectValue(t, "v"+strings.Repeat(r, impl.MaxValue), impl.LabelsLong)
		expectFault(t, "the metric", list(metric(strings.Repeat(r, impl.MaxValue+1))), impl.LabelsLong, 0)
	}
}

func TestValuesThatAreNotUtf8(t *testing.T) {
	wrong := map[string][]string{
		"cut within a rune":         {"\xc3", "\xe2", "\xe2\x82", "\xf0", "\xf0\x9f", "\xf0\x9f\x98"},
		"not in the shortest form":  {"\xc0\x80", "\xc1\xbf", "\xe0\x80\x80", "\xe0\x9f\xbf", "\xf0\x80\x80\x80", "\xf0\x8f\xbf\xbf"},
		"a surrogate":               {"\xed\xa0\x80", "\xed\xaf\xbf", "\xed\xb0\x80", "\xed\xbf\xbf"},
		"above the greatest":        {"\xf4\x90\x80\x80", "\xf4\xbf\xbf\xbf", "\xf5\x80\x80\x80", "\xf7\xbf\xbf\xbf"},
		"a lone byte of the middle": {"\x80", "\xbf", "a\x80", "\xc3\xa9\x80"},
		"no first byte":             {"\xf8\x88\x80\x80\x80", "\xfc\x84\x80\x80\x80\x80", "\xfe", "\xff"},
		"a first byte for another":  {"\xc3\xc3\xa9", "\xe2\x82\xc3\xa9", "\xf0\x9f\x98a"},
	}
	for what, values := range wrong {
		for _, v := range values {
			for _, value := range []string{v, "a" + v, v + "a", "\ufffd" + v, v + "\ufffd", "é" + v + "€"} {
				expectCode(t, fmt.Sprintf("%s: %q", what, value), lab("a", value), impl.LabelsUtf8)
			}
			expectFault(t, what, list(metric(v)), impl.LabelsUtf8, 0)
		}
	}
}

func TestValuesThatAreUtf8(t *testing.T) {
	right := []string{
		"", " ", "~", "\u00a0", "\u07ff", "\u0800", "\ud7ff", "\ue000", "\uffff", "\U00010000", "\U0010ffff",
		"\ufffd", "\xef\xbf\xbd", "\ufffd\ufffd", "a\ufffdb", "\ufeff", "\u2028",
	}
	for _, v := range right {
		if v == "" {
			expectForm(t, "empty", up(lab("a", v)), metric("up"))
			continue
		}
		expectValue(t, v, impl.LabelsOK)
	}
	expectValue(t, strings.Repeat("\ufffd", impl.MaxValue), impl.LabelsOK)
	expectValue(t, strings.Repeat("\ufffd", impl.MaxValue+1), impl.LabelsLong)
}

func TestControls(t *testing.T) {
	for r := range rune(300) {
		want := impl.LabelsOK
		if r < 32 || r >= 127 && r <= 159 {
			want = impl.LabelsControl
		}
		for _, value := range []string{string(r), "a" + string(r), string(r) + "a", "é" + string(r) + "€"} {
			expectValue(t, value, want)
		}
	}
	for _, r := range []rune{31, 127, 159} {
		expectValue(t, strings.Repeat("v", impl.MaxValue-1)+string(r), impl.LabelsControl)
		expectFault(t, "the metric", list(metric("up"+string(r))), impl.LabelsControl, 0)
	}
	for _, r := range []rune{32, 126, 160} {
		expectForm(t, "the metric", list(metric(string(r))), metric(string(r)))
	}
}

// expectByTheDocument asks for the code of a value, without the lists of expectValue: there are many.
func expectByTheDocument(t *testing.T, value string) {
	t.Helper()
	labels := [2]impl.Label{metric("up"), lab("a", value)}
	want, at := codeOf(value), 0
	if want != impl.LabelsOK {
		at = 1
	}
	if _, code, got := impl.Canon(labels[:]); code != want || got != at {
		t.Errorf("%q: %d, %d, not %d, %d", value, code, got, want, at)
	}
}

func TestBytesOfValues(t *testing.T) {
	edges := []byte{0x00, 0x41, 0x7f, 0x80, 0x8f, 0x90, 0x9f, 0xa0, 0xbf, 0xc0, 0xc2, 0xe0, 0xff}
	for a := range 256 {
		expectByTheDocument(t, string([]byte{byte(a)}))
		for b := range 256 {
			expectByTheDocument(t, string([]byte{byte(a), byte(b)}))
			if a < 0xc0 {
				continue
			}
			for _, c := range edges {
				expectByTheDocument(t, string([]byte{byte(a), byte(b), c}))
				expectByTheDocument(t, string([]byte{byte(a), byte(b), c, 0x80}))
				expectByTheDocument(t, string([]byte{byte(a), byte(b), 0xbf, c}))
			}
		}
	}
}
