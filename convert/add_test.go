package convert_test

// 12.8: the operator + .

import (
	"math"
	"slices"
	"strings"
	"testing"

	"cameo/api"
)

func TestAddOfPlain(t *testing.T) {
	h := newHeap(t, 0, 0, 1)
	add := named(t, "Add")
	for _, x := range []struct{ a, b, want api.Value }{
		{num(1), num(2), num(3)}, {num(0.1), num(0.2), num(0.30000000000000004)}, {num(1 << 53), num(1), num(1 << 53)}, {num(1 << 53), num(3), num(1<<53 + 4)}, {num(math.MaxFloat64), num(math.MaxFloat64), num(endless)},
		{num(below0), num(below0), num(below0)}, {num(below0), num(0), num(0)}, {num(1), num(-1), num(0)}, {num(endless), num(-endless), num(nan)}, {num(endless), num(1), num(endless)}, {num(nan), num(1), num(nan)},
		{num(1), null(), num(1)}, {num(1), undefined(), num(nan)}, {num(1), yes(), num(2)}, {null(), null(), num(0)}, {null(), num(below0), num(0)}, {undefined(), undefined(), num(nan)}, {undefined(), null(), num(nan)},
		{yes(), yes(), num(2)}, {no(), null(), num(0)},
		{text("a"), text("b"), text("ab")}, {text(""), text(""), text("")}, {text("1"), num(2), text("12")}, {num(1), text("2"), text("12")}, {text("a"), undefined(), text("aundefined")}, {undefined(), text("a"), text("undefineda")},
		{text("a"), null(), text("anull")}, {null(), text(""), text("null")}, {text(""), yes(), text("true")}, {no(), text("x"), text("falsex")}, {text("x"), num(below0), text("x0")}, {num(nan), text(""), text("NaN")},
		{num(1e21), text("x"), text("1e+21x")}, {text(""), num(-1.5), text("-1.5")},
		{text("\xed\xa0\xbd"), text("\xed\xb8\x80"), text("\U0001f600")}, {text("\xed\xb8\x80"), text("\xed\xa0\xbd"), text("\xed\xb8\x80\xed\xa0\xbd")}, {text("a\xed\xa0\xbd"), text(""), text("a\xed\xa0\xbd")},
	} {
		add.is(t, h, 0, x.want, nil, x.a, x.b)
	}
	for _, v := range plain() {
		add.is(t, h, 0, api.Value{}, typeError(), v, symbol(1))
		add.is(t, h, 0, api.Value{}, typeError(), symbol(1), v)
	}
}

// Strings that together are too long: by the bytes of what comes of them, not by those of the two.
func TestAddTooLong(t *testing.T) {
	h := newHeap(t, 0, 0, 1)
	add := named(t, "Add")
	long := func(n int) string { return strings.Repeat("a", n) }
	all := long(api.MaxStr)
	for _, x := range []struct {
		a, b api.Value
		fits bool
	}{
		{text(all), text(""), true}, {text(""), text(all), true}, {text(all), text("a"), false}, {text("a"), text(all), false}, {text(all), text(all), false},
		{text(long(api.MaxStr - 1)), text("a"), true}, {text(long(api.MaxStr - 1)), num(7), true}, {num(7), text(long(api.MaxStr - 1)), true}, {num(10), text(long(api.MaxStr - 1)), false}, {text(long(api.MaxStr - 1)), num(10), false},
		{text(long(api.MaxStr - 9)), undefined(), true}, {text(long(api.MaxStr - 8)), undefined(), false}, {null(), text(long(api.MaxStr - 4)), true}, {null(), text(long(api.MaxStr - 3)), false},
		{text(long(api.MaxStr/2) + "\xed\xa0\xbd"), text("\xed\xb8\x80" + long(api.MaxStr/2-4)), true}, {text(long(api.MaxStr/2) + "\xed\xa0\xbd"), text("\xed\xb8\x80" + long(api.MaxStr/2-3)), false},
		{text(long(api.MaxStr-4) + "\xed\xa0\xbd"), text("\xed\xb8\x80"), true}, {text(long(api.MaxStr-3) + "\xed\xa0\xbd"), text("\xed\xb8\x80"), false},
	} {
		v, err := add.do(h, x.a, x.b)
		if x.fits && (err != nil || v.Kind != api.KStr || len(v.Str) > api.MaxStr) || !x.fits && (!sameError(err, rangeError()) || v != api.Value{}) {
			t.Errorf("12.8: %d and %d bytes: %d, %v", len(x.a.Str), len(x.b.Str), len(v.Str), err)
		}
	}
	add.is(t, h, 0, api.Value{}, typeError(), text(all), symbol(1))
	add.is(t, h, 0, api.Value{}, typeError(), symbol(1), text(all))
}

func TestAddOrder(t *testing.T) {
	fromA, fromB := asked("#1", "a", "default"), asked("#2", "b", "default")
	long := text(strings.Repeat("a", api.MaxStr))
	for _, x := range []struct {
		a, b, want api.Value
		err        error
	}{
		{num(1), num(2), num(3), nil}, {text("1"), num(2), text("12"), nil}, {num(1), text("2"), text("12"), nil}, {text("1"), text("2"), text("12"), nil}, {undefined(), null(), num(nan), nil}, {yes(), null(), num(1), nil},
		{symbol(1), num(1), api.Value{}, typeError()}, {symbol(1), text("a"), api.Value{}, typeError()}, {text("a"), symbol(1), api.Value{}, typeError()}, {long, text("a"), api.Value{}, rangeError()}, {num(1), long, api.Value{}, rangeError()},
	} {
		h, d := pair(t, toPrimitive, x.a, nil, x.b, nil)
		named(t, "Add").is(t, h, 4, x.want, x.err, ref(1), ref(2))
		if l := d.take(); !slices.Equal(l, slices.Concat(fromA, fromB)) {
			t.Errorf("12.8: %v", l)
		}
		named(t, "Add").is(t, h, 2, x.want, x.err, x.a, ref(2))
		named(t, "Add").is(t, h, 2, x.want, x.err, ref(1), x.b)
		if l := d.take(); !slices.Equal(l, slices.Concat(fromB, fromA)) {
			t.Errorf("12.8: %v", l)
		}
	}
}

func TestAddEnds(t *testing.T) {
	add := named(t, "Add")
	for _, err := range []error{thrown(num(1)), rangeError(), api.ErrFull, api.ErrFuel} {
		h, d := pair(t, toPrimitive, api.Value{}, err, api.Value{}, thrown(text("b")))
		add.is(t, h, 2, api.Value{}, err, ref(1), ref(2))
		add.is(t, h, 2, api.Value{}, thrown(text("b")), ref(2), ref(1))
		add.is(t, h, 2, api.Value{}, err, symbol(1), ref(1))
		if len(d.lines) != 6 {
			t.Errorf("12.8: %v", d.lines)
		}
	}
	// With each lesser fuel it stops, having spent it.
	for fuel := range 6 {
		h, d := pair(t, toPrimitive, text("x"), nil, num(2), nil)
		h.Refuel(fuel)
		if fuel < 4 {
			add.is(t, h, fuel, api.Value{}, api.ErrFuel, ref(1), ref(2))
		} else {
			add.is(t, h, 4, text("x2"), nil, ref(1), ref(2))
		}
		if len(d.lines) != min(fuel, 4) {
			t.Errorf("12.8: with fuel %d: %v", fuel, d.lines)
		}
	}
}

// HintDefault asks valueOf first, as HintNumber does, though it is strings that are put together.
func TestAddByNames(t *testing.T) {
	h := newHeap(t, 9, 100, 1)
	made(t, h, null())
	lay(t, h, 1, valueOf, open(giving(t, h, num(5))))
	lay(t, h, 1, toString, open(giving(t, h, text("a"))))
	named(t, "Add").is(t, h, 5, text("5x"), nil, ref(1), text("x"))
	named(t, "Add").is(t, h, 5, text("x5"), nil, text("x"), ref(1))
	named(t, "Add").is(t, h, 10, num(10), nil, ref(1), ref(1))
}
