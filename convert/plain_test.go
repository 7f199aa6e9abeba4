package convert_test

// 12.4, 12.5, 12.9: what values become, and what objects do by what they are turned into.

import (
	"math"
	"strings"
	"testing"

	"cameo/api"
)

// turned is a value, and what it is as a number, as a string, as a key and by its type; symbols are no numbers and no strings.
type turned struct {
	v     api.Value
	num   float64
	str   string
	typed string
}

func turnedPlain() []turned {
	return []turned{
		{undefined(), nan, "undefined", "undefined"}, {null(), 0, "null", "object"}, {yes(), 1, "true", "boolean"}, {no(), 0, "false", "boolean"},
		{num(0), 0, "0", "number"}, {num(below0), below0, "0", "number"}, {num(1), 1, "1", "number"}, {num(-1.5), -1.5, "-1.5", "number"}, {num(1e21), 1e21, "1e+21", "number"},
		{num(nan), nan, "NaN", "number"}, {num(endless), endless, "Infinity", "number"}, {num(-endless), -endless, "-Infinity", "number"}, {num(5e-324), 5e-324, "5e-324", "number"},
		{text(""), 0, "", "string"}, {text(" \u00a0\ufeff"), 0, " \u00a0\ufeff", "string"}, {text("5"), 5, "5", "string"}, {text(" 5 "), 5, " 5 ", "string"}, {text("-0"), below0, "-0", "string"},
		{text("0x1F"), 31, "0x1F", "string"}, {text("1e400"), endless, "1e400", "string"}, {text("x"), nan, "x", "string"}, {text("true"), nan, "true", "string"}, {text("null"), nan, "null", "string"},
		{text("NaN"), nan, "NaN", "string"}, {text("-Infinity"), -endless, "-Infinity", "string"}, {text("\xed\xa0\xbd"), nan, "\xed\xa0\xbd", "string"}, {text("\U0001f600"), nan, "\U0001f600", "string"},
	}
}

func TestPlainKinds(t *testing.T) {
	h := newHeap(t, 0, 0, 1)
	for _, x := range turnedPlain() {
		named(t, "Number").is(t, h, 0, num(x.num), nil, x.v, null())
		named(t, "String").is(t, h, 0, text(x.str), nil, x.v, null())
		named(t, "Key").is(t, h, 0, text(x.str), nil, x.v, null())
		named(t, "TypeOf").is(t, h, 0, text(x.typed), nil, x.v, null())
	}
	for _, n := range []int{1, 11, 14, 65536} {
		named(t, "Number").is(t, h, 0, api.Value{}, typeError(), symbol(n), null())
		named(t, "String").is(t, h, 0, api.Value{}, typeError(), symbol(n), null())
		named(t, "Key").is(t, h, 0, symbol(n), nil, symbol(n), null())
		named(t, "TypeOf").is(t, h, 0, text("symbol"), nil, symbol(n), null())
		for _, s := range []string{"Integer", "Length", "Index", "Int32", "Uint32"} {
			named(t, s).is(t, h, 0, api.Value{}, typeError(), symbol(n), null())
		}
	}
}

// The longest strings are values as others are.
func TestLongStrings(t *testing.T) {
	h := newHeap(t, 0, 0, 1)
	long := strings.Repeat("a", api.MaxStr)
	named(t, "String").is(t, h, 0, text(long), nil, text(long), null())
	named(t, "Key").is(t, h, 0, text(long), nil, text(long), null())
	named(t, "Number").is(t, h, 0, num(nan), nil, text(long), null())
	named(t, "Number").is(t, h, 0, num(7), nil, text(strings.Repeat(" ", api.MaxStr-1)+"7"), null())
	named(t, "TypeOf").is(t, h, 0, text("string"), nil, text(long), null())
}

// 12.4: an object is what it is turned into: as a number by HintNumber, as a string and as a key by HintString.
func TestObjectsTurned(t *testing.T) {
	for _, x := range turnedPlain() {
		h := newHeap(t, 3, 100, 1)
		made(t, h, null())
		gives, seven := giving(t, h, x.v), giving(t, h, symbol(7))
		lay(t, h, 1, valueOf, open(gives))
		lay(t, h, 1, toString, open(seven))
		named(t, "Number").is(t, h, 1+1+3, num(x.num), nil, ref(1), null())
		named(t, "String").is(t, h, 1+1+3, api.Value{}, typeError(), ref(1), null())
		named(t, "Key").is(t, h, 1+1+3, symbol(7), nil, ref(1), null())
		named(t, "TypeOf").is(t, h, 0, text("object"), nil, ref(1), null())
		lay(t, h, 1, valueOf, open(seven))
		lay(t, h, 1, toString, open(gives))
		named(t, "Number").is(t, h, 1+1+3, api.Value{}, typeError(), ref(1), null())
		named(t, "String").is(t, h, 1+1+3, text(x.str), nil, ref(1), null())
		named(t, "Key").is(t, h, 1+1+3, text(x.str), nil, ref(1), null())
	}
}

// 12.4, 12.5: each of the calls tells its hint, and hands on what throws and what stops.
func TestHintsOfCalls(t *testing.T) {
	words := map[string]string{
		"Number": "number", "Integer": "number", "Length": "number", "Index": "number", "Int32": "number", "Uint32": "number",
		"String": "string", "Key": "string", "Loose": "default", "Less true": "number", "Less false": "number", "Add": "default",
	}
	for name, word := range words {
		for _, err := range []error{nil, thrown(num(3)), typeError(), rangeError(), api.ErrFuel, api.ErrFull} {
			h, d := newHeap(t, 2, 100, 1), &diary{}
			o := addSeer(t, h, d)
			lay(t, h, o, toPrimitive, open(ending(t, h, d, "exotic", map[bool]api.Value{true: num(1)}[err == nil], err)))
			v, got := named(t, name).do(h, ref(o), num(0))
			if !sameError(got, err) || (v == api.Value{}) != (err != nil) || h.Fuel() != 98 {
				t.Errorf("%s: %v, %v, %d left; want %v", name, v, got, h.Fuel(), err)
			}
			if len(d.lines) != 2 || d.lines[1] != `exotic #1 "`+word+`"` {
				t.Errorf("%s: %v", name, d.lines)
			}
		}
	}
}

// 12.5: whole numbers, of values of every kind.
func TestWhole(t *testing.T) {
	for _, x := range []struct {
		v                              api.Value
		integer, length, int32, uint32 float64
	}{
		{undefined(), 0, 0, 0, 0}, {null(), 0, 0, 0, 0}, {yes(), 1, 1, 1, 1}, {no(), 0, 0, 0, 0},
		{num(below0), 0, 0, 0, 0}, {num(-0.9), 0, 0, 0, 0}, {num(-1.9), -1, 0, -1, 1<<32 - 1}, {num(2.9), 2, 2, 2, 2}, {num(nan), 0, 0, 0, 0},
		{num(endless), endless, api.MaxSafe, 0, 0}, {num(-endless), -endless, 0, 0, 0}, {num(1 << 53), 1 << 53, api.MaxSafe, 0, 0}, {num(api.MaxSafe), api.MaxSafe, api.MaxSafe, -1, 1<<32 - 1},
		{num(1 << 31), 1 << 31, 1 << 31, -1 << 31, 1 << 31}, {num(1<<32 + 5), 1<<32 + 5, 1<<32 + 5, 5, 5}, {num(-1 << 31), -1 << 31, 0, -1 << 31, 1 << 31},
		{text("4294967295.5"), 1<<32 - 1, 1<<32 - 1, -1, 1<<32 - 1}, {text(" -0 "), 0, 0, 0, 0}, {text("x"), 0, 0, 0, 0}, {text(""), 0, 0, 0, 0}, {text("0x10"), 16, 16, 16, 16},
	} {
		h := newHeap(t, 2, 100, 1)
		made(t, h, null())
		lay(t, h, 1, valueOf, open(giving(t, h, x.v)))
		for o, cost := range map[api.Value]int{x.v: 0, ref(1): 5} {
			named(t, "Integer").is(t, h, cost, num(x.integer), nil, o, null())
			named(t, "Length").is(t, h, cost, num(x.length), nil, o, null())
			named(t, "Int32").is(t, h, cost, num(x.int32), nil, o, null())
			named(t, "Uint32").is(t, h, cost, num(x.uint32), nil, o, null())
		}
	}
}

// 12.5: Index, at its edges.
func TestIndex(t *testing.T) {
	in := map[api.Value]float64{
		undefined(): 0, null(): 0, no(): 0, yes(): 1, num(0): 0, num(-0.5): 0, num(math.Nextafter(-1, 0)): 0, num(0.9): 0, num(1): 1, num(api.MaxSafe): api.MaxSafe, num(api.MaxSafe - 1): api.MaxSafe - 1,
		num(4294967295.5): 4294967295, text(""): 0, text("-0"): 0, text("-0.99"): 0, text("x"): 0, text("9007199254740991"): api.MaxSafe, text("0x1fffffffffffff"): api.MaxSafe, text("3.7"): 3,
	}
	out := []api.Value{
		num(-1), num(math.Nextafter(-1, -2)), num(-1.5), num(1 << 53), num(1e300), num(endless), num(-endless), num(-1 << 53),
		text("-1"), text("9007199254740992"), text("Infinity"), text("-Infinity"), text("0x20000000000000"), text("1e400"),
	}
	h := newHeap(t, 0, 0, 1)
	index := named(t, "Index")
	for v, want := range in {
		index.is(t, h, 0, num(want), nil, v, null())
	}
	index.is(t, h, 0, num(0), nil, num(nan), null())
	index.is(t, h, 0, num(0), nil, num(below0), null())
	for _, v := range out {
		index.is(t, h, 0, api.Value{}, rangeError(), v, null())
	}
	for _, v := range out {
		h := newHeap(t, 2, 100, 1)
		made(t, h, null())
		lay(t, h, 1, valueOf, open(giving(t, h, v)))
		index.is(t, h, 5, api.Value{}, rangeError(), ref(1), null())
	}
}

// 12.9
func TestTypeOfObjects(t *testing.T) {
	h := newHeap(t, 9, 0, 1)
	var d diary
	made(t, h, null())
	f, g := giving(t, h, null()), ending(t, h, &d, "g", null(), nil)
	heir := made(t, h, f)
	typed := named(t, "TypeOf")
	for v, want := range map[api.Value]string{ref(1): "object", f: "function", g: "function", ref(heir): "object"} {
		typed.is(t, h, 0, text(want), nil, v, null())
	}
	lay(t, h, 1, toPrimitive, open(g))
	lay(t, h, 1, str("call"), open(g))
	typed.is(t, h, 0, text("object"), nil, ref(1), null())
	if len(d.lines) > 0 {
		t.Errorf("12.9: %v", d.lines)
	}
}
