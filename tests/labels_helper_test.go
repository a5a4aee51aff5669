package tests

import (
	"fmt"
	"slices"
	"testing"

	"loop.example/s02176/impl"
)

func lab(name, value string) impl.Label { return impl.Label{Name: name, Value: value} }

// metric is the label without which no list is accepted.
func metric(value string) impl.Label { return lab("__name__", value) }

func list(labels ...impl.Label) []impl.Label { return labels }

// up is a metric and more labels behind it.
func up(labels ...impl.Label) []impl.Label { return append(list(metric("up")), labels...) }

// numbered gives n labels with names of their own, in order.
func numbered(n int) []impl.Label {
	var labels []impl.Label
	for i := range n {
		labels = append(labels, lab(fmt.Sprintf("l%02d", i), "v"))
	}
	return labels
}

// expectForm asks that the list is accepted with just this form, and is as it was.
func expectForm(t *testing.T, what string, labels []impl.Label, want ...impl.Label) {
	t.Helper()
	before := slices.Clone(labels)
	form, code, at := impl.Canon(labels)
	if code != impl.LabelsOK || at != 0 || !slices.Equal(form, want) {
		t.Errorf("%s: %q, %d, %d, not %q", what, form, code, at, want)
	}
	if !slices.Equal(labels, before) {
		t.Errorf("%s: the argument became %q, was %q", what, labels, before)
	}
}

// expectFault asks for a code and an index alone, and that the list is as it was.
func expectFault(t *testing.T, what string, labels []impl.Label, code, at int) {
	t.Helper()
	before := slices.Clone(labels)
	form, gotCode, gotAt := impl.Canon(labels)
	if gotCode != code || gotAt != at || len(form) != 0 {
		t.Errorf("%s: %q, %d, %d, not %d, %d", what, form, gotCode, gotAt, code, at)
	}
	if !slices.Equal(labels, before) {
		t.Errorf("%s: the argument became %q, was %q", what, labels, before)
	}
	if key := impl.EncodeKey(labels); key != "" {
		t.Errorf("%s: the key %q", what, key)
	}
}

// expectCode asks for this code of the second of three labels.
func expectCode(t *testing.T, what string, second impl.Label, code int) {
	t.Helper()
	labels := list(lab("_a", "v"), second, metric("up"))
	if code != impl.LabelsOK {
		expectFault(t, what, labels, code, 1)
		return
	}
	form, got, at := impl.Canon(labels)
	if got != impl.LabelsOK || at != 0 || len(form) != 3 || !slices.Contains(form, second) {
		t.Errorf("%s: %q, %d, %d", what, form, got, at)
	}
}

// orders yields every order of the labels.
func orders(labels []impl.Label, yield func([]impl.Label)) {
	var place func(done, rest []impl.Label)
	place = func(done, rest []impl.Label) {
		if len(rest) == 0 {
			yield(done)
		}
		for i := range rest {
			place(append(slices.Clone(done), rest[i]), slices.Delete(slices.Clone(rest), i, i+1))
		}
	}
	place(nil, labels)
}
