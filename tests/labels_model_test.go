package tests

import (
	"fmt"
	"regexp"
	"slices"
	"sort"
	"strings"
	"testing"

	"loop.example/s02176/impl"
)

var nameForm = regexp.MustCompile(`^[A-Za-z_][A-Za-z0-9_]{0,63}\z`)

type canoned struct {
	form     []impl.Label
	code, at int
}

// modelCanon is Canon once more, with the names in a map.
func modelCanon(labels []impl.Label) canoned {
	if len(labels) > 16 {
		return canoned{code: impl.LabelsMany}
	}
	for i, l := range labels {
		if !nameForm.MatchString(l.Name) {
			return canoned{code: impl.LabelsName, at: i}
		}
		if code := codeOf(l.Value); code != impl.LabelsOK {
			return canoned{code: code, at: i}
		}
	}
	values := map[string]string{}
	for i, l := range labels {
		if _, there := values[l.Name]; there {
			return canoned{code: impl.LabelsTwice, at: i}
		}
		values[l.Name] = l.Value
	}
	if values["__name__"] == "" {
		return canoned{code: impl.LabelsMetric}
	}
	var form []impl.Label
	for name, value := range values {
		if value != "" {
			form = append(form, lab(name, value))
		}
	}
	sort.Slice(form, func(i, j int) bool { return form[i].Name < form[j].Name })
	return canoned{form: form}
}

func (r *dice) pick(from ...string) string { return from[r.below(len(from))] }

// label is mostly one that is accepted.
func (r *dice) label() impl.Label {
	l := lab(r.pick("a", "b", "c", "ab", "aB", "A", "_", "_1", "z9", "job", "zone")+r.pick("", "", "1", "_", "x"), r.pick("", "v", "w", "é", "€ b", "\ufffd"))
	switch r.below(60) {
	case 0:
		l.Name = r.pick("", "9", "a-", "é", strings.Repeat("n", 65))
	case 1:
		l.Value += r.pick("\xff", "\xc3", "\xed\xa0\x80", "\x80")
	case 2:
		l.Value += r.pick("\x00", "\x1f", "\x7f", "\u0080", "\u009f")
	case 3:
		l.Value += strings.Repeat(r.pick("v", "é", "\x01"), 126+r.below(5))
	case 4:
		l.Value = r.bytes(4)
	}
	return l
}

func (r *dice) labels() []impl.Label {
	var labels []impl.Label
	for range r.below(6) {
		labels = append(labels, r.label())
	}
	if r.below(10) > 0 {
		labels = slices.Insert(labels, r.below(len(labels)+1), metric(r.pick("up", "down", "é", "")))
	}
	if r.below(20) == 0 {
		labels = append(labels, numbered(8+r.below(6))...)
	}
	return labels
}

func (r *dice) shuffled(labels []impl.Label) []impl.Label {
	out := slices.Clone(labels)
	for i := range out {
		j := i + r.below(len(out)-i)
		out[i], out[j] = out[j], out[i]
	}
	return out
}

func TestCanonAgainstAModel(t *testing.T) {
	seen := map[int]int{}
	for seed := range 20000 {
		r := dice(seed)
		labels := r.labels()
		want := modelCanon(labels)
		seen[want.code]++
		if want.code != impl.LabelsOK {
			expectFault(t, fmt.Sprint("seed ", seed), labels, want.code, want.at)
		} else {
			expectForm(t, fmt.Sprint("seed ", seed), labels, want.form...)
			expectForm(t, fmt.Sprint("shuffled, seed ", seed), r.shuffled(labels), want.form...)
			expectForm(t, fmt.Sprint("its form, seed ", seed), want.form, want.form...)
			expectKey(t, fmt.Sprint("its key, seed ", seed), want.form, handKey(want.form...), metricIn(want.form))
		}
		if key := impl.EncodeKey(labels); (key != "") != (want.code == impl.LabelsOK && slices.Equal(labels, want.form)) {
			t.Errorf("seed %d: %q has the key %q", seed, labels, key)
		}
		if t.Failed() {
			t.FailNow()
		}
	}
	expectSeen(t, seen, impl.LabelsOK, impl.LabelsMany, impl.LabelsName, impl.LabelsUtf8, impl.LabelsLong, impl.LabelsControl, impl.LabelsTwice, impl.LabelsMetric)
}

// Names and values may be cut at other places: only the same labels may have the same key.
func TestKeysAreTheSameForTheSameLabelsOnly(t *testing.T) {
	keys := map[string][]impl.Label{}
	pieces := []string{"a", "b", "ab", "ba", "aa", "__name__", "a\\", "\\", "=", ",", "é"}
	for _, name := range pieces[:5] {
		for _, value := range pieces {
			for _, more := range append(pieces, "") {
				form, code, _ := impl.Canon(list(metric(value), lab(name, more)))
				key := impl.EncodeKey(form)
				if other, there := keys[key]; code != impl.LabelsOK || there && !slices.Equal(form, other) {
					t.Errorf("%q and %q: %q, %d", form, other, key, code)
				}
				keys[key] = form
			}
		}
	}
	if want := len(pieces) + 5*len(pieces)*len(pieces); len(keys) != want {
		t.Errorf("%d keys, not %d", len(keys), want)
	}
}

// What DecodeKey accepts is written back as the same string, whatever the string was.
func TestDecodeKeyAnswersAtEveryString(t *testing.T) {
	accepted := 0
	for seed := range 20000 {
		r := dice(seed)
		key := r.bytes(30)
		if seed%2 == 0 {
			bytes := []byte(handKey(r.labels()...))
			for range r.below(2) {
				bytes[r.below(len(bytes))] = byte(r.below(256))
			}
			key = string(bytes)
		}
		labels, ok := impl.DecodeKey(key)
		if !ok {
			expectNoKey(t, fmt.Sprint("seed ", seed), key)
			continue
		}
		accepted++
		want := modelCanon(labels)
		if want.code != impl.LabelsOK || !slices.Equal(want.form, labels) || handKey(labels...) != key || impl.EncodeKey(labels) != key {
			t.Errorf("seed %d: %q is read as %q", seed, key, labels)
		}
	}
	if accepted < 100 {
		t.Errorf("%d were accepted: the test is too tame", accepted)
	}
}
