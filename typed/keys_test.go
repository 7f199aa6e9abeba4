package typed_test

// 15.5, 15.6: numeric keys of every form, and strings that only look like one.

import (
	"slices"
	"strings"
	"testing"

	"cameo/api"
	"cameo/heap"
)

// numeric is canonical numeric strings that are no elements of an array of four.
func numeric() []string {
	return []string{
		"-0", "-1", "-2", "-3", "-4", "4", "5", "10", "99", "100", "65535", "65536", "4294967294", "4294967295", "4294967296", "4294967297", "9007199254740991", "9007199254740992", "18446744073709552000", "18446744073709552000", "123456789012345680000",
		"0.5", "1.5", "3.5", "0.1", "-0.5", "-1.5", "0.000001", "2.0000000000000004", "2.9999999999999996", "1e+21", "1e+22", "1.5e+300", "-1e+21", "1e-7", "-1e-7", "5e-324", "1.7976931348623157e+308", "-1.7976931348623157e+308", "NaN", "Infinity", "-Infinity",
	}
}

// looks is strings that are not canonical, though many of them are read as a number, or are close to one.
func looks() []string {
	return []string{
		"", "00", "01", "08", "007", "+0", "+1", "-00", "-01", "- 0", "--0", "-", "+", ".", "1.", ".5", "0.", "1.0", "1.50", "0.10", "-0.0", "0.0", "-0.5e0", "1e0", "1e1", "1e21", "1E+21", "1e+021", "1e+20", "1e+2", "1e-6", "1e-07", "5E-324", "1e-7 ",
		"0x1", "0X1", "0b1", "0o1", "-0x1", "1_0", "1,0", "1n", "1L", "1f", "NAN", "nan", "-NaN", "+NaN", "infinity", "INFINITY", "+Infinity", "Infinit", "Infinity ", "-infinity", "inf", "Inf",
		" 1", "1 ", " ", "\t2", "2\n", "\u00a03", "3\u3000", "\ufeff0", "0\ufeff", "0\x00", "\x000", "\uff11", "\u0661", "\u00b2", "1\u0300", "\xed\xa0\xbd", "1\xed\xa0\xbd", "9007199254740993", "18446744073709551615", "18446744073709551616", "1000000000000000000000", "100000000000000000000000", "1e400", "-1e400", "0.1000000000000000055", "0.30000000000000004441", "4.9e-324", "2e-324",
		"length", "undefined", "null", "true", "a", "a1", "1a", "one", strings.Repeat("0", 400), strings.Repeat("1", 400), "0." + strings.Repeat("3", 400), strings.Repeat("9", api.MaxStr),
	}
}

// four is a heap with the objects 1 (ordinary, empty), 2 (a buffer of 1 to 4), 3 (TUint8 over it, of 1).
func four(t *testing.T) *heap.Heap {
	t.Helper()
	h := newHeap(t, 9, 1000, 9)
	made(t, h, null())
	filled(t, h, 1, 2, 3, 4)
	over(t, h, 2, api.TUint8, 0, 4)
	free(t, h, func() (bool, error) { return h.SetPrototypeOf(3, ref(1)) })
	return h
}

// A numeric key that is no element's is nobody's: nothing that is done with it changes anything, and no prototype is asked, whatever that has there.
func TestNobodysKeys(t *testing.T) {
	for _, s := range numeric() {
		called := func(*heap.Heap, api.Value, []api.Value) (api.Value, error) {
			t.Errorf("15.5: %s: a prototype's accessor is called", s)
			return null(), nil
		}
		for _, d := range []api.Desc{{}, data(num(7), "wec"), data(num(7), ""), accessor(ref(4), ref(4), "ec")} {
			h := four(t)
			addNative(t, h, called)
			if d != (api.Desc{}) {
				define(t, h, 1, str(s), d)
			}
			nobodys(t, h, str(s))
			free(t, h, func() (bool, error) { return h.PreventExtensions(3) })
			nobodys(t, h, str(s))
			detach(t, h, 2)
			nobodys(t, h, str(s))
		}
	}
}

func nobodys(t *testing.T, h *heap.Heap, k api.Key) {
	t.Helper()
	before, fuel := now(h), h.Fuel()
	if d, ok, err := h.GetOwnProperty(3, k); d != (api.Desc{}) || ok || err != nil {
		t.Errorf("15.5: GetOwnProperty(%v): %v, %v, %v", k, d, ok, err)
	}
	if ok, err := h.HasProperty(3, k); ok || err != nil {
		t.Errorf("15.5: HasProperty(%v): %v, %v", k, ok, err)
	}
	if v, err := h.Get(3, k, ref(3)); v != undefined() || err != nil {
		t.Errorf("15.5: Get(%v): %v, %v", k, v, err)
	}
	if ok, err := h.Delete(3, k); !ok || err != nil {
		t.Errorf("15.5: Delete(%v): %v, %v", k, ok, err)
	}
	for _, d := range []api.Desc{{}, {Value: num(9)}, data(num(9), "wec"), data(num(9), ""), {Get: undefined()}} {
		if ok, err := h.DefineOwnProperty(3, k, d); ok || err != nil {
			t.Errorf("15.6: DefineOwnProperty(%v, %v): %v, %v", k, d, ok, err)
		}
	}
	for _, receiver := range []api.Value{ref(3), ref(2), ref(1), null()} {
		if ok, err := h.Set(3, k, num(9), receiver); !ok || err != nil {
			t.Errorf("15.6: Set(%v): %v, %v", k, ok, err)
		}
	}
	if !sameMoment(now(h), before) || fuel-h.Fuel() != 13 {
		t.Errorf("15.5: what is done with %v changes something, or costs %d", k, fuel-h.Fuel())
	}
}

// A string that is not canonical is a property's key as any other one, of the array and of its prototype.
func TestLikelyKeys(t *testing.T) {
	keys := []api.Key{sym(1), sym(3)}
	for _, s := range looks() {
		keys = append(keys, str(s))
	}
	for _, k := range keys {
		h := four(t)
		name := k.Str[:min(len(k.Str), 20)]
		define(t, h, 1, k, data(num(7), "wec"))
		if v, err := h.Get(3, k, ref(3)); v != num(7) || err != nil {
			t.Errorf("15.5: Get(%q): %v, %v", name, v, err)
		}
		if ok, err := h.HasProperty(3, k); !ok || err != nil {
			t.Errorf("15.5: HasProperty(%q): %v, %v", name, ok, err)
		}
		if ok, err := h.Set(3, k, text("x"), ref(3)); !ok || err != nil {
			t.Errorf("15.6: Set(%q): %v, %v", name, ok, err)
		}
		if s, _ := h.Shape(3); len(s.Props) != 1 || s.Props[0].Key != k || !sameDesc(s.Props[0].Desc, data(text("x"), "wec")) {
			t.Errorf("15.7: %q: the shape has %d", name, len(s.Props))
		}
		if d, ok, err := h.GetOwnProperty(3, k); !sameDesc(d, data(text("x"), "wec")) || !ok || err != nil {
			t.Errorf("15.5: GetOwnProperty(%q): %v, %v, %v", name, d, ok, err)
		}
		if ok, err := h.DefineOwnProperty(3, k, data(symbol(1), "c")); !ok || err != nil {
			t.Errorf("15.6: DefineOwnProperty(%q): %v, %v", name, ok, err)
		}
		if l, err := h.OwnPropertyKeys(3); !slices.Equal(l, []api.Key{at(0), at(1), at(2), at(3), k}) || err != nil {
			t.Errorf("15.7: %q: %d, %v", name, len(l), err)
		}
		if ok, err := h.Delete(3, k); !ok || err != nil {
			t.Errorf("15.5: Delete(%q): %v, %v", name, ok, err)
		}
		if s, _ := h.Shape(3); len(s.Props) != 0 {
			t.Errorf("15.5: %q stays", name)
		}
		holds(t, h, 2, 1, 2, 3, 4)
	}
}

// The keys of elements, and what the prototype has there is not seen.
func TestElementsKeys(t *testing.T) {
	h := four(t)
	for i := range 4 {
		define(t, h, 1, at(i), data(num(9), ""))
		tells(t, h, 3, at(i), num(float64(i+1)))
		sets(t, h, 3, at(i), num(float64(i+11)))
	}
	holds(t, h, 2, 11, 12, 13, 14)
}
