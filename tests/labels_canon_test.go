package tests

import (
	"fmt"
	"slices"
	"strings"
	"testing"

	"loop.example/s02176/impl"
)

func TestCanonOfLabels(t *testing.T) {
	expectForm(t, "the metric alone", list(metric("up")), metric("up"))
	expectForm(t, "sorted", list(lab("zone", "é"), metric("up"), lab("Job", "a b"), lab("_", "x")),
		lab("Job", "a b"), lab("_", "x"), metric("up"), lab("zone", "é"))
	expectForm(t, "in byte order", list(lab("a", "1"), lab("B", "2"), lab("a_", "3"), lab("a9", "4"), lab("aa", "5"), lab("_1", "6"), metric("m")),
		lab("B", "2"), lab("_1", "6"), metric("m"), lab("a", "1"), lab("a9", "4"), lab("a_", "3"), lab("aa", "5"))
	expectForm(t, "a beginning comes first", list(lab("abc", "1"), lab("ab", "2"), metric("m"), lab("abcd", "3")),
		metric("m"), lab("ab", "2"), lab("abc", "1"), lab("abcd", "3"))
}

func TestCanonLeavesOutEmptyValues(t *testing.T) {
	expectForm(t, "one", up(lab("a", "")), metric("up"))
	expectForm(t, "the first, the last and one between", list(lab("a", ""), lab("d", "v"), lab("c", ""), metric("up"), lab("b", "")),
		metric("up"), lab("d", "v"))
	expectForm(t, "a value that is a space", up(lab("a", " ")), metric("up"), lab("a", " "))
}

func TestCanonOfManyLabels(t *testing.T) {
	full := append(numbered(impl.MaxLabels-1), metric("up"))
	expectForm(t, "MaxLabels", full, append(list(metric("up")), numbered(impl.MaxLabels-1)...)...)
	expectFault(t, "one more", append(numbered(impl.MaxLabels), metric("up")), impl.LabelsMany, 0)
	expectFault(t, "one more that is empty", append(slices.Clone(full), lab("empty", "")), impl.LabelsMany, 0)
	expectFault(t, "one more that is there already", append(slices.Clone(full), metric("up")), impl.LabelsMany, 0)
	expectFault(t, "300", numbered(300), impl.LabelsMany, 0)
	faulty := map[int]impl.Label{
		impl.LabelsName:    lab("", "v"),
		impl.LabelsUtf8:    lab("a", "\xff"),
		impl.LabelsLong:    lab("a", strings.Repeat("v", impl.MaxValue+1)),
		impl.LabelsControl: lab("a", "\x00"),
		impl.LabelsTwice:   lab("l01", "v"),
	}
	for code, l := range faulty {
		for _, at := range []int{2, impl.MaxLabels - 1} {
			labels := slices.Clone(full)
			labels[0], labels[at] = metric("up"), l
			expectFault(t, "a fault among MaxLabels", labels, code, at)
			expectFault(t, "a fault among one more", append(labels, lab("more", "v")), impl.LabelsMany, 0)
		}
	}
	expectFault(t, "MaxLabels without a metric", numbered(impl.MaxLabels), impl.LabelsMetric, 0)
	expectFault(t, "one more without a metric", numbered(impl.MaxLabels+1), impl.LabelsMany, 0)
}

func TestCanonOfNoMetric(t *testing.T) {
	expectFault(t, "nil", nil, impl.LabelsMetric, 0)
	expectFault(t, "no label", list(), impl.LabelsMetric, 0)
	expectFault(t, "missing", list(lab("a", "v")), impl.LabelsMetric, 0)
	expectFault(t, "empty", list(metric("")), impl.LabelsMetric, 0)
	expectFault(t, "empty among others", list(lab("a", "v"), metric(""), lab("b", "v")), impl.LabelsMetric, 0)
	for _, name := range []string{"__name", "_name__", "__name___", "___name__", "__Name__", "__NAME__", "name"} {
		expectFault(t, name, list(lab(name, "up")), impl.LabelsMetric, 0)
	}
}

func TestCanonOfANameTwice(t *testing.T) {
	expectFault(t, "the same label", up(lab("a", "v"), lab("a", "v")), impl.LabelsTwice, 2)
	expectFault(t, "another value", up(lab("a", "v"), lab("b", "v"), lab("a", "w")), impl.LabelsTwice, 3)
	expectFault(t, "the first is empty", up(lab("a", ""), lab("a", "v")), impl.LabelsTwice, 2)
	expectFault(t, "the second is empty", up(lab("a", "v"), lab("a", "")), impl.LabelsTwice, 2)
	expectFault(t, "both are empty", up(lab("a", ""), lab("a", "")), impl.LabelsTwice, 2)
	expectFault(t, "thrice", list(lab("a", "v"), lab("a", "v"), lab("a", "v"), metric("up")), impl.LabelsTwice, 1)
	expectFault(t, "two names", list(lab("a", "v"), lab("b", "v"), metric("up"), lab("b", "v"), lab("a", "v")), impl.LabelsTwice, 3)
	expectFault(t, "the greater name first", list(lab("b", "v"), lab("a", "v"), lab("a", "v"), lab("b", "v"), metric("up")), impl.LabelsTwice, 2)
	expectFault(t, "the metric", list(metric("up"), metric("down")), impl.LabelsTwice, 1)
	expectFault(t, "the metric, first empty", list(metric(""), metric("down")), impl.LabelsTwice, 1)
	expectFault(t, "without a metric", list(lab("a", "v"), lab("a", "v")), impl.LabelsTwice, 1)
	expectForm(t, "great and small letters", up(lab("a", "v"), lab("A", "v")), lab("A", "v"), metric("up"), lab("a", "v"))
	expectForm(t, "the same value", up(lab("a", "up"), lab("b", "up")), metric("up"), lab("a", "up"), lab("b", "up"))
}

func TestNamesOfLabels(t *testing.T) {
	right := []string{
		"a", "z", "A", "Z", "_", "__", "a0", "a9", "_0", "_9", "aA", "aZ", "az", "a_", "__name", "aB_9",
		strings.Repeat("n", impl.MaxName), strings.Repeat("n", impl.MaxName-1), "_" + strings.Repeat("9", impl.MaxName-1),
	}
	for _, name := range right {
		expectCode(t, fmt.Sprintf("%q", name), lab(name, "v"), impl.LabelsOK)
	}
	wrong := []string{
		"", "0", "9", "0a", "9a", "a b", "a-b", "a.b", "a:b", "é", "aé", "a\x00", "\x00", "a\xff", "a ", " a",
		strings.Repeat("n", impl.MaxName+1), strings.Repeat("n", 1000), strings.Repeat("n", impl.MaxName-1) + "-",
	}
	for _, name := range wrong {
		expectCode(t, fmt.Sprintf("%q", name), lab(name, "v"), impl.LabelsName)
		expectCode(t, fmt.Sprintf("%q with no value", name), lab(name, ""), impl.LabelsName)
	}
}

// Each byte stands alone, at the end and in the middle of a name.
func TestEveryByteInAName(t *testing.T) {
	const first = "ABCDEFGHIJKLMNOPQRSTUVWXYZabcdefghijklmnopqrstuvwxyz_"
	for b := range 256 {
		c := string([]byte{byte(b)})
		alone, behind := impl.LabelsName, impl.LabelsName
		if strings.Contains(first, c) {
			alone, behind = impl.LabelsOK, impl.LabelsOK
		}
		if strings.Contains("0123456789", c) {
			behind = impl.LabelsOK
		}
		expectCode(t, fmt.Sprintf("%q", c), lab(c, "v"), alone)
		expectCode(t, fmt.Sprintf("%q first", c), lab(c+"b", "v"), alone)
		expectCode(t, fmt.Sprintf("%q behind", c), lab("b"+c, "v"), behind)
		expectCode(t, fmt.Sprintf("%q between", c), lab("b"+c+"c", "v"), behind)
	}
}

func TestTheOrderOfFaultsInOneLabel(t *testing.T) {
	long := strings.Repeat("v", impl.MaxValue+1)
	expectCode(t, "name and UTF-8", lab("9", "\xff"), impl.LabelsName)
	expectCode(t, "name and length", lab("9", long), impl.LabelsName)
	expectCode(t, "name and control", lab("9", "\x00"), impl.LabelsName)
	expectCode(t, "UTF-8 and length", lab("a", long+"\xff"), impl.LabelsUtf8)
	expectCode(t, "UTF-8 ahead of length", lab("a", "\xff"+long), impl.LabelsUtf8)
	expectCode(t, "UTF-8 far behind", lab("a", strings.Repeat(long, 100)+"\xff"), impl.LabelsUtf8)
	expectCode(t, "control and UTF-8", lab("a", "\x00\xff"), impl.LabelsUtf8)
	expectCode(t, "UTF-8 and control", lab("a", "\xff\x00"), impl.LabelsUtf8)
	expectCode(t, "control and length", lab("a", "\x00"+long), impl.LabelsLong)
	expectCode(t, "length and control", lab("a", long+"\x00"), impl.LabelsLong)
	expectCode(t, "controls alone are too long", lab("a", strings.Repeat("\x00", impl.MaxValue+1)), impl.LabelsLong)
	expectCode(t, "all three", lab("a", "\x00"+long+"\xff"), impl.LabelsUtf8)
	expectCode(t, "all four", lab("", "\x00"+long+"\xff"), impl.LabelsName)
}

// faultyLabels has each fault that a label can have alone.
func faultyLabels() map[int]impl.Label {
	return map[int]impl.Label{
		impl.LabelsName:    lab("a-b", "v"),
		impl.LabelsUtf8:    lab("utf", "\xff"),
		impl.LabelsLong:    lab("long", strings.Repeat("v", impl.MaxValue+1)),
		impl.LabelsControl: lab("control", "\x1f"),
	}
}

func TestTheOrderOfFaultsInOneList(t *testing.T) {
	for code, l := range faultyLabels() {
		for at := range 4 {
			expectFault(t, "alone", slices.Insert(up(lab("a", "v"), lab("b", "v")), at, l), code, at)
		}
		for _, other := range faultyLabels() {
			expectFault(t, "two", list(lab("a", "v"), l, metric("up"), other), code, 1)
		}
		expectFault(t, "behind a name twice", up(lab("a", "v"), lab("a", "v"), l), code, 3)
		expectFault(t, "ahead of a name twice", list(l, metric("up"), lab("a", "v"), lab("a", "v")), code, 0)
		expectFault(t, "in the name that is twice", up(lab(l.Name, "v"), l), code, map[bool]int{true: 1, false: 2}[code == impl.LabelsName])
		expectFault(t, "without a metric", list(lab("a", "v"), l), code, 1)
		expectFault(t, "behind an empty metric", list(metric(""), l), code, 1)
	}
	expectFault(t, "in the metric", list(lab("a", "v"), metric("\xff")), impl.LabelsUtf8, 1)
	expectFault(t, "in the metric that is twice", list(metric("up"), metric("\x00")), impl.LabelsControl, 1)
}

func TestTheFormIsTheSameForEveryOrder(t *testing.T) {
	labels := list(lab("zone", "z"), metric("up"), lab("job", "a b"), lab("Job", "é"), lab("none", ""), lab("jo", "x"))
	form := list(lab("Job", "é"), metric("up"), lab("jo", "x"), lab("job", "a b"), lab("zone", "z"))
	key, count := impl.EncodeKey(form), 0
	orders(labels, func(order []impl.Label) {
		count++
		expectForm(t, "an order", order, form...)
		got, _, _ := impl.Canon(order)
		if impl.EncodeKey(got) != key {
			t.Errorf("%q: %q, not %q", order, impl.EncodeKey(got), key)
		}
	})
	if count != 720 {
		t.Error(count)
	}
	expectForm(t, "the form itself", form, form...)
}
