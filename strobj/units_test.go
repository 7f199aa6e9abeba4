package strobj_test

// 16.1, 16.3, 16.5: the unit properties of strings of every form.

import (
	"strings"
	"testing"

	"cameo/api"
	"cameo/strobj"
)

// Each unit is a property of its own, and nothing behind the last one is.
func TestUnitsOfWords(t *testing.T) {
	for _, s := range words() {
		h := newHeap(t, 2, 1<<20, 9)
		o := of(t, h, null(), s)
		made(t, h, ref(o))
		l := twinUnits(s)
		var keys []api.Key
		for i, u := range l {
			keys = append(keys, at(i))
			has(t, h, o, at(i), data(text(twinUnit(u)), "e"))
			has(t, h, 2, at(i), api.Desc{})
			for asked := o; asked <= 2; asked++ {
				tells(t, h, asked, at(i), text(twinUnit(u)))
				if ok, err := h.HasProperty(asked, at(i)); !ok || err != nil {
					t.Errorf("%q: HasProperty(%d, %d): %v, %v", s, asked, i, ok, err)
				}
			}
		}
		listed(t, h, o, append(keys, str("length"))...)
		listed(t, h, 2)
		for i := len(l); i < len(l)+3; i++ {
			has(t, h, o, at(i), api.Desc{})
			tells(t, h, o, at(i), undefined())
			if ok, err := h.HasProperty(o, at(i)); ok || err != nil {
				t.Errorf("%q: HasProperty(%d): %v, %v", s, i, ok, err)
			}
		}
		has(t, h, o, str("length"), data(num(float64(len(l))), ""))
		has(t, h, o, at(-1), api.Desc{})
		if shape, _ := h.Shape(o); len(shape.Props) != 1 {
			t.Errorf("16.4: %q: %v", s, shape)
		}
	}
}

// Each unit that there is, alone in its string.
func TestEveryUnit(t *testing.T) {
	h := newHeap(t, api.MaxObjects, 1<<30, 9)
	for u := range 1 << 16 {
		s := twinUnit(uint16(u))
		o := of(t, h, null(), s)
		if v, err := h.Get(o, at(0), null()); v != text(s) || err != nil {
			t.Fatalf("Get of the unit %x: %v, %v", u, v, err)
		}
		if v, err := h.Get(o, at(1), null()); v != undefined() || err != nil {
			t.Fatalf("Get behind the unit %x: %v, %v", u, v, err)
		}
		if got, e := strobj.Data(h, o); got != s || e != api.OK {
			t.Fatalf("Data of the unit %x: %q, %v", u, got, e)
		}
	}
}

// A string that has as many units as one can have: its units are told at their places, and its keys in their order, without much ado.
func TestManyUnits(t *testing.T) {
	h := newHeap(t, 1, 1<<30, 9)
	s := strings.Repeat("0123456789abcdef", api.MaxStr/16)
	o := of(t, h, null(), s)
	define(t, h, o, str("a"), data(num(1), "wec"))
	define(t, h, o, at(api.MaxStr), data(num(2), "wec"))
	keys, err := h.OwnPropertyKeys(o)
	if len(keys) != api.MaxStr+3 || err != nil {
		t.Fatalf("%d, %v", len(keys), err)
	}
	for i := range api.MaxStr {
		if keys[i] != at(i) {
			t.Fatalf("16.3: at %d stands %v", i, keys[i])
		}
	}
	if rest := keys[api.MaxStr:]; rest[0] != at(api.MaxStr) || rest[1] != str("length") || rest[2] != str("a") {
		t.Errorf("16.3: %v", rest)
	}
	for i := range api.MaxStr {
		if v, err := h.Get(o, keys[i], null()); v != text(s[i:i+1]) || err != nil {
			t.Fatalf("16.5: Get(%d): %v, %v", i, v, err)
		}
	}
	has(t, h, o, at(api.MaxStr-1), data(text("f"), "e"))
	has(t, h, o, at(api.MaxStr), data(num(2), "wec"))
	defines(t, h, o, at(api.MaxStr-1), api.Desc{Value: text("e")}, false)
}

// Pairs at the edge of MaxStr: the last unit is a low surrogate.
func TestManyPairs(t *testing.T) {
	h := newHeap(t, 1, 1000, 9)
	n := api.MaxStr / 2
	o := of(t, h, null(), strings.Repeat("\U0001f600", n/2))
	for i, want := range map[int]api.Value{0: text(high), 1: text(low), n - 2: text(high), n - 1: text(low), n: undefined()} {
		tells(t, h, o, at(i), want)
	}
	tells(t, h, o, str("length"), num(float64(n)))
}
