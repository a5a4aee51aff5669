package tests

import (
	"slices"
	"testing"

	"loop.example/s02176/impl"
)

// roomyLabels gives the labels with spare room behind them, where a careless append would write into the argument.
func roomyLabels(labels []impl.Label) []impl.Label {
	out := make([]impl.Label, len(labels), len(labels)+8)
	copy(out, labels)
	return out
}

// expectUntouched asks that the list and the room behind it are as roomyLabels made them.
func expectUntouched(t *testing.T, what string, labels, want []impl.Label) {
	t.Helper()
	if !slices.Equal(labels, want) {
		t.Errorf("%s: the argument became %q, was %q", what, labels, want)
	}
	for _, l := range labels[len(labels):cap(labels)] {
		if l != (impl.Label{}) {
			t.Errorf("%s: the spare room of the argument has %q", what, l)
		}
	}
}

func scribbleLabels(labels []impl.Label) {
	labels = labels[:cap(labels)]
	for i := range labels {
		labels[i] = lab("scribble", "scribble")
	}
}

// allLists are lists with a form and lists with every fault.
func allLists() [][]impl.Label {
	all := append(canonicals(), list(lab("z", "v"), lab("b", ""), metric("up"), lab("a", "v")), list(lab("b", ""), metric("up")), nil)
	for _, l := range faultyLabels() {
		all = append(all, up(lab("z", "v"), l, lab("y", "v")))
	}
	for _, labels := range uncanonicals() {
		all = append(all, labels)
	}
	return all
}

func TestCanonSharesNoMemory(t *testing.T) {
	for _, want := range allLists() {
		labels := roomyLabels(want)
		form, code, at := impl.Canon(labels)
		kept := slices.Clone(form)
		expectUntouched(t, "Canon", labels, want)
		scribbleLabels(form)
		expectUntouched(t, "a scribble into the form", labels, want)
		again, code2, at2 := impl.Canon(labels)
		if !slices.Equal(again, kept) || code2 != code || at2 != at {
			t.Errorf("%q: %q, %d, %d, was %q, %d, %d", want, again, code2, at2, kept, code, at)
		}
		scribbleLabels(labels)
		if !slices.Equal(again, kept) {
			t.Errorf("%q: the form became %q", want, again)
		}
	}
}

func TestKeysShareNoMemory(t *testing.T) {
	for _, want := range allLists() {
		labels := roomyLabels(want)
		key := impl.EncodeKey(labels)
		expectUntouched(t, "EncodeKey", labels, want)
		scribbleLabels(labels)
		if again := impl.EncodeKey(roomyLabels(want)); again != key {
			t.Errorf("%q: the key became %q, was %q", want, again, key)
		}
		first, _ := impl.DecodeKey(key)
		kept := slices.Clone(first)
		scribbleLabels(first)
		if second, _ := impl.DecodeKey(key); !slices.Equal(second, kept) {
			t.Errorf("%q: read as %q, then as %q", key, kept, second)
		}
	}
}
