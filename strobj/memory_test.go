package strobj_test

// What is handed in is neither changed nor kept, and what is handed out is new memory (R4).

import (
	"slices"
	"testing"
	"unsafe"

	"cameo/api"
	"cameo/strobj"
)

// spoil writes over a list, and over the room behind its end.
func spoil[T any](l []T, x T) {
	for i := range l[:cap(l)] {
		l[:cap(l)][i] = x
	}
}

func shares(a, b string) bool { return unsafe.StringData(a) == unsafe.StringData(b) }

// 16.4: the string that is handed in is the caller's: what becomes of its bytes is not seen.
func TestStringIsTheCallers(t *testing.T) {
	for _, word := range []string{"some word", "a\U0001f600b", high + "x" + low} {
		bytes := []byte(word + "behind")
		s := unsafe.String(&bytes[0], len(word))
		h := newHeap(t, 2, 100, 5)
		one, two := of(t, h, null(), s), of(t, h, ref(1), s)
		if string(bytes) != word+"behind" {
			t.Errorf("R4: what was handed in is %q", bytes)
		}
		spoil(bytes, 'z')
		for _, o := range []int{one, two} {
			holds(t, h, o, word)
			for i, u := range twinUnits(word) {
				tells(t, h, o, at(i), text(twinUnit(u)))
			}
		}
	}
}

// 16.4: each answer of Data is a string of its own.
func TestDataIsTheCallers(t *testing.T) {
	word := string([]byte("some word"))
	h := newHeap(t, 2, 100, 5)
	one, two := of(t, h, null(), word), of(t, h, null(), word)
	first, _ := strobj.Data(h, one)
	second, _ := strobj.Data(h, one)
	other, _ := strobj.Data(h, two)
	if shares(first, word) || shares(first, second) || shares(first, other) {
		t.Error("R4: a string is handed on")
	}
	spoil(unsafe.Slice(unsafe.StringData(first), len(first)), 'z')
	holds(t, h, one, "some word")
	tells(t, h, one, at(0), text("s"))
	if second != "some word" || other != "some word" {
		t.Errorf("R4: %q, %q", second, other)
	}
}

// 16.1: so is each unit. (Those of one byte are no memory of anybody: Go has them ready.)
func TestUnitsAreTheCallers(t *testing.T) {
	word := string([]byte("\u20ac" + high + "\u20ac"))
	h := newHeap(t, 1, 100, 5)
	o := of(t, h, null(), word)
	var l []string
	for range 2 {
		for i := range 3 {
			v, _ := h.Get(o, at(i), null())
			d, _, _ := h.GetOwnProperty(o, at(i))
			l = append(l, v.Str, d.Value.Str)
		}
	}
	for i, s := range l {
		if shares(s, word) || shares(s, word[3:]) || shares(s, word[6:]) || slices.ContainsFunc(l[:i], func(x string) bool { return shares(s, x) }) {
			t.Errorf("R4: the string %d is handed on", i)
		}
	}
	for _, s := range l {
		spoil(unsafe.Slice(unsafe.StringData(s), len(s)), 'z')
	}
	holds(t, h, o, word)
	for i, want := range []string{"\u20ac", high, "\u20ac"} {
		tells(t, h, o, at(i), text(want))
	}
}

// 16.3: so are keys, the room behind their end, too.
func TestKeysAreTheCallers(t *testing.T) {
	for _, word := range []string{"", "a", "abc", "0123456789abcdef!"} {
		h := newHeap(t, 1, 100, 1)
		o := of(t, h, null(), word)
		define(t, h, o, str("x"), data(num(1), "wec"))
		define(t, h, o, sym(2), data(num(1), "wec"))
		var want []api.Key
		for i := range len(word) {
			want = append(want, at(i))
		}
		want = append(want, str("length"), str("x"), sym(2))
		first, _ := h.OwnPropertyKeys(o)
		second, _ := h.OwnPropertyKeys(o)
		spoil(first, str("z"))
		third, _ := h.OwnPropertyKeys(o)
		if !slices.Equal(second, want) || !slices.Equal(third, want) {
			t.Errorf("R4: %v, %v", second, third)
		}
	}
}

// Shapes are the caller's, too.
func TestShapesAreTheCallers(t *testing.T) {
	h := newHeap(t, 1, 100, 1)
	o := of(t, h, null(), "ab")
	s, _ := h.Shape(o)
	spoil(s.Props, api.Prop{Key: at(0), Desc: data(num(1), "wec")})
	has(t, h, o, str("length"), data(num(2), ""))
	has(t, h, o, at(0), data(text("a"), "e"))
}

// Two heaps know nothing of each other, nor do two String objects of one string.
func TestHeapsAreApart(t *testing.T) {
	a, b := newHeap(t, 2, 10, 5), newHeap(t, 1, 20, 5)
	of(t, a, null(), "ab")
	of(t, a, null(), "ab")
	of(t, b, null(), "abc")
	defines(t, a, 1, at(2), data(num(1), "wec"), true)
	shut(t, a, 1)
	holds(t, a, 2, "ab")
	holds(t, b, 1, "abc")
	if s, _ := a.Shape(2); len(s.Props) != 1 || !s.Extensible {
		t.Errorf("%v", s)
	}
	if s, _ := b.Shape(1); len(s.Props) != 1 || !s.Extensible {
		t.Errorf("%v", s)
	}
	if a.Fuel() != 9 || b.Fuel() != 20 {
		t.Errorf("%d, %d", a.Fuel(), b.Fuel())
	}
}
