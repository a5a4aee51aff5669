package tests

import (
	"fmt"
	"hash/fnv"
	"slices"
	"strings"
	"testing"

	"loop.example/s02176/impl"
)

// handKey writes a key by the words of the document, for labels that need not be canonical.
func handKey(labels ...impl.Label) string {
	key := string([]byte{byte(len(labels))})
	for _, l := range labels {
		key += string([]byte{byte(len(l.Name))}) + l.Name
		key += string([]byte{byte(len(l.Value) >> 8), byte(len(l.Value))}) + l.Value
	}
	return key
}

// expectKey asks that the labels have just this key, and come back from it.
func expectKey(t *testing.T, what string, labels []impl.Label, key, name string) {
	t.Helper()
	before := slices.Clone(labels)
	if got := impl.EncodeKey(labels); got != key {
		t.Errorf("%s: %.80q, not %.80q", what, got, key)
	}
	if back, ok := impl.DecodeKey(key); !ok || !slices.Equal(back, labels) {
		t.Errorf("%s: %q, %v, not %q", what, back, ok, labels)
	}
	if got := impl.Metric(key); got != name {
		t.Errorf("%s: the metric %q, not %q", what, got, name)
	}
	if !slices.Equal(labels, before) {
		t.Errorf("%s: the argument became %q, was %q", what, labels, before)
	}
}

// expectNoKey asks that nothing is read from the string.
func expectNoKey(t *testing.T, what, key string) {
	t.Helper()
	if back, ok := impl.DecodeKey(key); ok || len(back) != 0 {
		t.Errorf("%s: %.80q is read as %q", what, key, back)
	}
	if got := impl.Metric(key); got != "" {
		t.Errorf("%s: %.80q has the metric %q", what, key, got)
	}
}

func metricIn(labels []impl.Label) string {
	at := slices.IndexFunc(labels, func(l impl.Label) bool { return l.Name == "__name__" })
	return labels[at].Value
}

// greatest is the list with the longest key: 16 labels of 64 bytes and of 128 runes of 4 bytes.
func greatest() []impl.Label {
	value := strings.Repeat("\U0010ffff", impl.MaxValue)
	labels := list(metric(value))
	for i := range impl.MaxLabels - 1 {
		labels = append(labels, lab(fmt.Sprintf("%s%02d", strings.Repeat("n", impl.MaxName-2), i), value))
	}
	return labels
}

// canonicals are lists in canonical form.
func canonicals() [][]impl.Label {
	return [][]impl.Label{
		list(metric("up")),
		list(metric("\xef\xbf\xbd")),
		list(lab("Job", "a"), metric("up")),
		list(metric("up"), lab("job", "a")),
		list(lab("A", strings.Repeat("é", impl.MaxValue)), lab("_", "b"), metric("m"), lab("z9", " ")),
		append(list(metric("up")), numbered(impl.MaxLabels-1)...),
		greatest(),
	}
}

// uncanonicals are lists that have no key, though a key could be written by hand.
func uncanonicals() map[string][]impl.Label {
	return map[string][]impl.Label{
		"no label":           list(),
		"no metric":          list(lab("a", "b")),
		"an empty metric":    list(metric("")),
		"not sorted":         list(metric("up"), lab("Job", "a")),
		"sorted backwards":   list(lab("c", "v"), lab("b", "v"), metric("up")),
		"an empty value":     list(lab("A", ""), metric("up")),
		"an empty value end": list(metric("up"), lab("a", "")),
		"a name twice":       list(metric("up"), lab("a", "v"), lab("a", "v")),
		"two metrics":        list(metric("up"), metric("up")),
		"no name":            list(lab("", "v"), metric("up")),
		"a wrong name":       list(metric("up"), lab("a-b", "v")),
		"a long name":        list(metric("up"), lab(strings.Repeat("n", impl.MaxName+1), "v")),
		"a digit first":      list(lab("9", "v"), metric("up")),
		"no UTF-8":           list(metric("up\xff")),
		"a long value":       list(metric(strings.Repeat("v", impl.MaxValue+1))),
		"a control":          list(metric("up"), lab("a", "\x00")),
		"many labels":        append(list(metric("up")), numbered(impl.MaxLabels)...),
		"255 labels":         append(list(metric("up")), numbered(254)...),
	}
}

func TestKeysOfCanonicalLists(t *testing.T) {
	expectKey(t, "two", list(lab("Job", "a"), metric("up")), "\x02\x03Job\x00\x01a\x08__name__\x00\x02up", "up")
	for i, labels := range canonicals() {
		expectKey(t, fmt.Sprint("list ", i), labels, handKey(labels...), metricIn(labels))
	}
	if n := len(impl.EncodeKey(greatest())); n != 1+16*(3+512)+8+15*64 {
		t.Error(n)
	}
}

func TestKeysOfListsThatAreNotCanonical(t *testing.T) {
	for what, labels := range uncanonicals() {
		before := slices.Clone(labels)
		if key := impl.EncodeKey(labels); key != "" {
			t.Errorf("%s: the key %.80q", what, key)
		}
		if !slices.Equal(labels, before) {
			t.Errorf("%s: the argument became %q, was %q", what, labels, before)
		}
		expectNoKey(t, what, handKey(labels...))
	}
	if key := impl.EncodeKey(nil); key != "" {
		t.Errorf("nil: the key %q", key)
	}
}

func TestPiecesOfKeys(t *testing.T) {
	expectNoKey(t, "empty", "")
	for i, labels := range canonicals() {
		key := impl.EncodeKey(labels)
		for cut := range len(key) {
			expectNoKey(t, fmt.Sprintf("list %d, %d bytes", i, cut), key[:cut])
		}
		for _, more := range []string{"\x00", "\x01", "a", "\xff", key, "\x01a\x00\x01b"} {
			expectNoKey(t, fmt.Sprintf("list %d and %.5q", i, more), key+more)
		}
		for _, b := range []int{-2, -1, 1, 2, 16, 128} {
			expectNoKey(t, fmt.Sprintf("list %d, its number by %d", i, b), string([]byte{key[0] + byte(b)})+key[1:])
		}
	}
}

// A byte that is turned makes no key, or the key of other labels: never the same.
func TestKeysWithAByteTurned(t *testing.T) {
	labels := list(lab("Job", "a"), metric("up"), lab("zone", "é"))
	key, none, others := impl.EncodeKey(labels), 0, 0
	for i := range len(key) {
		for to := range 256 {
			turned := []byte(key)
			turned[i] = byte(to)
			if to == int(key[i]) {
				continue
			}
			back, ok := impl.DecodeKey(string(turned))
			if !ok {
				none++
				expectNoKey(t, fmt.Sprintf("byte %d as %d", i, to), string(turned))
				continue
			}
			others++
			if slices.Equal(back, labels) || impl.EncodeKey(back) != string(turned) || handKey(back...) != string(turned) {
				t.Errorf("%q is read as %q", turned, back)
			}
		}
	}
	if none < 500 || others < 500 {
		t.Errorf("%d that are no keys, %d that are others", none, others)
	}
}

func TestLengthsThatGoTooFar(t *testing.T) {
	for _, key := range []string{
		"\x01\xff", "\x01\x08__name__\xff\xff", "\x01\x08__name__\xff\xffup", "\x01\x08__name__\x00\x03up", "\x01\x09__name__\x00\x02up",
		"\x01\x08__name__\x02\x00up", "\x01\x08__name__\x00", "\x00", "\x00\x08__name__\x00\x02up", "\xff", "\xff\xff\xff\xff",
		strings.Repeat("\x00", 1000), strings.Repeat("\xff", 1000),
	} {
		expectNoKey(t, "lengths", key)
	}
	expectNoKey(t, "a value of 65535 bytes", handKey(metric(strings.Repeat("v", 65535))))
}

func TestHash64(t *testing.T) {
	all := ""
	for b := range 256 {
		all += string([]byte{byte(b)})
	}
	known := map[string]int{
		"":       -3750763034362895579,
		"a":      -5808556873153909620,
		"foobar": -8821353812377114648,
		"\xff":   -5808391946409677970,
		all:      4774620800949106213,
	}
	for s, want := range known {
		if got := impl.Hash64(s); got != want {
			t.Errorf("%q: %d, not %d", s, got, want)
		}
	}
	r := dice(3)
	for range 400 {
		s := r.bytes(300)
		h := fnv.New64a()
		h.Write([]byte(s))
		if got, want := impl.Hash64(s), int(h.Sum64()); got != want {
			t.Errorf("%q: %d, not %d", s, got, want)
		}
	}
}
