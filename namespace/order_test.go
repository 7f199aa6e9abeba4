package namespace_test

// The order of exports: by their units, whatever their bytes are, and whatever order they came in.

import (
	"math/rand"
	"slices"
	"testing"

	"cameo/api"
	"cameo/namespace"
)

// ordered is names in their order.
func ordered() []string {
	return []string{
		"", "\x00", "\x00\x00", "\x00a", "\x01", " ", "-0", "-1", "0", "00", "01", "08", "1", "1.5", "10", "100", "11", "2", "20", "4294967294", "4294967295", "9", "A", "Z", "__proto__", "a", "a\x00", "aa", "ab", "b", "constructor", "length", "z", "\x7f",
		"\u0080", "\u00e9", "\u07ff", "\u0800", "\u20ac", "\ud7ff",
		"\xed\xa0\x80", "\xed\xa0\x80a", "\U00010000", "\U00010000a", "\U00010001", "\U000103ff", "\xed\xa0\x80\ue000", // D800, then DC00, DC01, DFFF and E000
		"\xed\xa0\x81", "\U00010400", high, high + "a", "\U0001f600", "\U0001f600" + high, "\U0001f600" + "\uffff", "\U0001f601", high + "\uffff", "\xed\xaf\xbf", "\U0010ffff",
		"\xed\xb0\x80", "\xed\xb0\x80\xed\xa0\x80", low, low + high, low + low, "\xed\xbf\xbf", "\xed\xbf\xbf" + "\U00010000",
		"\ue000", "\ufeff", "\ufffd", "\uffff", "\uffff\U00010000", "\uffff\uffff",
	}
}

// The list above is what the document's words make of it, and is not the order of bytes.
func TestOrderedIsInOrder(t *testing.T) {
	l := ordered()
	for i, s := range l[1:] {
		if !slices.IsSortedFunc([]string{l[i], s}, twinCompare) || l[i] == s || !twinValid(s) {
			t.Errorf("%q does not stand ahead of %q", l[i], s)
		}
	}
	if slices.IsSorted(l) {
		t.Error("bytes would do")
	}
}

// 20.7, 20.9
func TestOrder(t *testing.T) {
	l := ordered()
	c := rand.New(rand.NewSource(1))
	for round := range 300 {
		names := slices.Clone(l)
		switch round {
		case 0:
		case 1:
			slices.Reverse(names)
		case 2:
			slices.Sort(names)
		default:
			c.Shuffle(len(names), func(i, j int) { names[i], names[j] = names[j], names[i] })
			names = names[:c.Intn(len(names)+1)]
		}
		var want []string
		var keys []api.Key
		for _, s := range l {
			if slices.Contains(names, s) {
				want, keys = append(want, s), append(keys, str(s))
			}
		}
		h := newHeap(t, 1, 10, 1)
		of(t, h, names...)
		exports(t, h, 1, fact{want, make([]api.Value, len(want))})
		keysOf(1).is(t, h, 1, append(keys, tag()), nil)
	}
}

// Each pair of names, in both orders.
func TestOrderOfTwo(t *testing.T) {
	l := ordered()
	for i, a := range l {
		for _, b := range l[:i] {
			for _, names := range [][]string{{a, b}, {b, a}} {
				h := newHeap(t, 1, 10, 1)
				of(t, h, names...)
				if got, _, e := namespace.Exports(h, 1); !slices.Equal(got, []string{b, a}) || e != api.OK {
					t.Errorf("20.9: %q, %v", got, e)
				}
			}
		}
	}
}

// What they are bound to, and when, does not move them.
func TestOrderStays(t *testing.T) {
	l := ordered()
	h := newHeap(t, 1, 1000, 1)
	of(t, h, l...)
	values := make([]api.Value, len(l))
	for _, i := range rand.New(rand.NewSource(2)).Perm(len(l)) {
		values[i] = num(float64(i))
		bind(t, h, 1, l[i], values[i])
		exports(t, h, 1, fact{l, values})
		gets(1, str(l[i]), null()).is(t, h, 1, values[i], nil)
	}
}
