package strobj_test

// 16.1 to 16.3: keys that are no unit properties, though they look like one.

import (
	"slices"
	"strings"
	"testing"

	"cameo/api"
	"cameo/heap"
)

// looks is keys that are no unit properties of abc, though many of them are read as a number, or would be one if its higher bits were lost.
func looks() []api.Key {
	l := []api.Key{sym(1), sym(3), sym(65536)}
	for _, s := range []string{
		"", "00", "01", "02", "001", "+0", "+1", "-0", "-1", "-2", "-00", "- 1", "-", "+", ".", "0.", ".0", "1.", "1.0", "0.0", "1.5", "0.5", "2.9999999999999996", "1e0", "1e+0", "0e0", "1E0", "0x0", "0x1", "0b1", "0o1", "1_0", "1n", "1a", "a1", " 1", "1 ", "\t1", "1\n", "\u00a01", "\ufeff1", "1\x00", "\x001", "\uff11", "\u0661", "\u00b2", "1\u0300", high, "1" + high, "NaN", "Infinity", "-Infinity", "undefined", "null", "Length", "lengths",
		"3", "4", "5", "9", "10", "12", "20", "100", "256", "257", "65536", "65537", "2147483648", "4294967294", "4294967295", "4294967296", "4294967297", "4294967298", "9007199254740991", "9007199254740992", "9007199254740993", "9223372036854775807", "9223372036854775808", "18446744073709551615", "18446744073709551616", "18446744073709551617", "18446744073709551618", "340282366920938463463374607431768211456", "1e+21", "1e21",
		strings.Repeat("0", 400), strings.Repeat("1", 400), strings.Repeat("0", 400) + "1", strings.Repeat("9", api.MaxStr),
	} {
		l = append(l, str(s))
	}
	return l
}

// abc is a heap with the objects 1 (ordinary, empty), 2 (a String object of abc, of 1).
func abc(t *testing.T) *heap.Heap {
	t.Helper()
	h := newHeap(t, 9, 1000, 9)
	made(t, h, null())
	of(t, h, ref(1), "abc")
	return h
}

// short is a key as a fault tells it.
func short(k api.Key) api.Key { return api.Key{Str: k.Str[:min(len(k.Str), 30)], Sym: k.Sym} }

// behind is the keys of abc, and one more, where it must stand.
func behind(k api.Key) []api.Key {
	units := []api.Key{at(0), at(1), at(2)}
	if n := numbered(k); n >= 0 && n < 1<<32-1 {
		return append(units, k, str("length"))
	}
	return append(units, str("length"), k)
}

// Such a key is a property's as any other one, of the String object and of its prototype.
func TestLikelyKeys(t *testing.T) {
	for _, k := range looks() {
		h := abc(t)
		has(t, h, 2, k, api.Desc{})
		tells(t, h, 2, k, undefined())
		define(t, h, 1, k, data(num(7), "wec"))
		has(t, h, 2, k, api.Desc{})
		tells(t, h, 2, k, num(7))
		if ok, err := h.HasProperty(2, k); !ok || err != nil {
			t.Errorf("HasProperty(%v): %v, %v", short(k), ok, err)
		}
		if ok, err := h.Set(2, k, text("x"), ref(2)); !ok || err != nil {
			t.Errorf("Set(%v): %v, %v", short(k), ok, err)
		}
		has(t, h, 2, k, data(text("x"), "wec"))
		has(t, h, 1, k, data(num(7), "wec"))
		if s, _ := h.Shape(2); len(s.Props) != 2 || s.Props[1].Key != k || !sameDesc(s.Props[1].Desc, data(text("x"), "wec")) {
			t.Errorf("16.2: %v: the shape has %d", short(k), len(s.Props))
		}
		if l, err := h.OwnPropertyKeys(2); !slices.Equal(l, behind(k)) || err != nil {
			t.Errorf("16.3: %v: %d keys, %v", short(k), len(l), err)
		}
		defines(t, h, 2, k, api.Desc{Get: undefined(), Enumerable: api.No}, true)
		has(t, h, 2, k, accessor(undefined(), undefined(), "c"))
		if ok, err := h.Delete(2, k); !ok || err != nil {
			t.Errorf("Delete(%v): %v, %v", short(k), ok, err)
		}
		listed(t, h, 2, at(0), at(1), at(2), str("length"))
		tells(t, h, 2, k, num(7))
		shut(t, h, 2)
		defines(t, h, 2, k, data(num(1), "wec"), false)
		holds(t, h, 2, "abc")
	}
}

// What the prototype has under the key of a unit is not seen, and not called.
func TestUnitsKeys(t *testing.T) {
	called := func(*heap.Heap, api.Value, []api.Value) (api.Value, error) {
		t.Error("16.1: a prototype's accessor is called")
		return null(), nil
	}
	for _, d := range []api.Desc{data(num(9), ""), data(num(9), "wec"), accessor(ref(3), ref(3), "ec"), accessor(undefined(), undefined(), "")} {
		h := abc(t)
		addNative(t, h, called)
		for i, c := range "abc" {
			define(t, h, 1, at(i), d)
			tells(t, h, 2, at(i), text(string(c)))
			has(t, h, 2, at(i), data(text(string(c)), "e"))
			if ok, err := h.Set(2, at(i), num(1), ref(2)); ok || err != nil {
				t.Errorf("Set(%d): %v, %v", i, ok, err)
			}
		}
	}
}

// 16.3: units, then what lies there: array indices rising, then strings, then symbols, as they came.
func TestOrderOfKeys(t *testing.T) {
	h := abc(t)
	for _, k := range []api.Key{str("b"), at(7), sym(9), str("4294967295"), str("4294967294"), str("01"), at(3), sym(2), str("-0"), at(20), str("a"), str("")} {
		define(t, h, 2, k, data(num(1), "c"))
	}
	units := []api.Key{at(0), at(1), at(2), at(3), at(7), at(20), str("4294967294")}
	listed(t, h, 2, append(units, str("length"), str("b"), str("4294967295"), str("01"), str("-0"), str("a"), str(""), sym(9), sym(2))...)
	for _, k := range []api.Key{str("b"), at(3), sym(9)} { // what comes again stands last of its kind
		if ok, err := h.Delete(2, k); !ok || err != nil {
			t.Fatal(ok, err)
		}
		define(t, h, 2, k, data(num(1), "c"))
	}
	listed(t, h, 2, append(units, str("length"), str("4294967295"), str("01"), str("-0"), str("a"), str(""), str("b"), sym(2), sym(9))...)
	for _, k := range units[:3] {
		defines(t, h, 2, k, api.Desc{}, true)
	}
	if s, _ := h.Shape(2); len(s.Props) != 13 || s.Props[0].Key != str("length") {
		t.Errorf("16.4: %v", s)
	}
}

// An empty string has no unit property: each index is a property as any other one.
func TestEmptyString(t *testing.T) {
	h := newHeap(t, 1, 100, 9)
	o := of(t, h, null(), "")
	listed(t, h, o, str("length"))
	has(t, h, o, at(0), api.Desc{})
	defines(t, h, o, at(0), data(text("x"), "wec"), true)
	listed(t, h, o, at(0), str("length"))
	defines(t, h, o, at(0), api.Desc{Value: text("y")}, true)
	tells(t, h, o, at(0), text("y"))
	holds(t, h, o, "")
}
