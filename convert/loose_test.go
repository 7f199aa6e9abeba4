package convert_test

// 12.6: what is loosely equal, of every pair of kinds.

import (
	"slices"
	"testing"

	"cameo/api"
	"cameo/convert"
	"cameo/heap"
)

// looseHeap is a heap with objects, each of which is turned into a value at the cost of 5 (those that are not there: the other one, and a function, which are turned into nothing at the cost of 3).
func looseHeap(t *testing.T) (*heap.Heap, map[string]api.Value) {
	t.Helper()
	h := newHeap(t, 30, 1<<20, 1)
	l := map[string]api.Value{
		"undefined": undefined(), "null": null(), "false": no(), "true": yes(),
		"0": num(0), "-0": num(below0), "1": num(1), "2": num(2), "NaN": num(nan), "Infinity": num(endless),
		`""`: text(""), `"0"`: text("0"), `"1"`: text("1"), `" 1 "`: text(" 1 "), `"x"`: text("x"), `"true"`: text("true"), `"null"`: text("null"), `"undefined"`: text("undefined"), `"NaN"`: text("NaN"), `"Infinity"`: text("Infinity"),
		"@1": symbol(1), "@2": symbol(2),
	}
	for name, v := range map[string]api.Value{"undefined": undefined(), "null": null(), "true": yes(), "0": num(0), "1": num(1), "NaN": num(nan), `"1"`: text("1"), `"x"`: text("x"), "@1": symbol(1)} {
		o := made(t, h, null())
		lay(t, h, o, valueOf, open(giving(t, h, v)))
		l["object "+name] = ref(o)
	}
	l["object"], l["function"] = ref(made(t, h, null())), giving(t, h, num(1))
	return h, l
}

// equals is all pairs of unlike names that are loosely equal.
func equals() [][2]string {
	return [][2]string{
		{"undefined", "null"},
		{"0", "-0"}, {"0", "false"}, {"-0", "false"}, {"1", "true"},
		{`""`, "0"}, {`""`, "-0"}, {`""`, "false"}, {`"0"`, "0"}, {`"0"`, "-0"}, {`"0"`, "false"},
		{`"1"`, "1"}, {`"1"`, "true"}, {`" 1 "`, "1"}, {`" 1 "`, "true"}, {`"Infinity"`, "Infinity"},
		{"object true", "1"}, {"object true", "true"}, {"object true", `"1"`}, {"object true", `" 1 "`},
		{"object 0", "0"}, {"object 0", "-0"}, {"object 0", "false"}, {"object 0", `""`}, {"object 0", `"0"`},
		{"object 1", "1"}, {"object 1", "true"}, {"object 1", `"1"`}, {"object 1", `" 1 "`},
		{`object "1"`, "1"}, {`object "1"`, "true"}, {`object "1"`, `"1"`},
		{`object "x"`, `"x"`},
		{"object @1", "@1"},
	}
}

func isObject(name string) bool { return len(name) >= 6 && name[:6] == "object" || name == "function" }

// looseCost is what the pair spends, and whether it throws for want of anything to turn the object into.
func looseCost(l map[string]api.Value, a, b string) (int, error) {
	if isObject(a) {
		a, b = b, a
	}
	if isObject(a) || !isObject(b) || l[a].Kind <= api.KNull {
		return 0, nil
	}
	if b == "object" || b == "function" {
		return 3, typeError()
	}
	return 5, nil
}

func TestLoose(t *testing.T) {
	h, l := looseHeap(t)
	x := named(t, "Loose")
	for a, v := range l {
		for b, w := range l {
			equal := a == b && a != "NaN" || slices.Contains(equals(), [2]string{a, b}) || slices.Contains(equals(), [2]string{b, a})
			cost, wrong := looseCost(l, a, b)
			want := truth(equal)
			if wrong != nil {
				want = api.Value{}
			}
			x.is(t, h, cost, want, wrong, v, w)
		}
	}
}

// 12.6: it is the object, wherever it stands, that is asked, once, by HintDefault; a boolean is a number ahead of that.
func TestLooseEnters(t *testing.T) {
	for _, v := range []api.Value{num(1), text("1"), yes(), symbol(1), num(nan)} {
		for _, first := range []bool{true, false} {
			h, d := newHeap(t, 2, 9, 1), &diary{}
			o := addSeer(t, h, d)
			lay(t, h, o, toPrimitive, open(ending(t, h, d, "exotic", yes(), nil)))
			a, b := ref(o), v
			if !first {
				a, b = b, a
			}
			want := v.Kind != api.KSym && v.Num == v.Num
			if ok, err := convert.Loose(h, a, b); ok != want || err != nil || !slices.Equal(d.lines, []string{"#1 @11 #1", `exotic #1 "default"`}) || h.Fuel() != 7 {
				t.Errorf("12.6: %v, %v: %v, %v, %v, %d left", a, b, ok, err, d.lines, h.Fuel())
			}
		}
	}
}

// 12.6: two objects, and objects beside nothing, are asked for nothing, though they could not be.
func TestLooseAsksNobody(t *testing.T) {
	h := newHeap(t, 3, 0, 1)
	a, b, f := ref(made(t, h, null())), ref(made(t, h, null())), giving(t, h, null())
	x := named(t, "Loose")
	x.is(t, h, 0, yes(), nil, a, a)
	x.is(t, h, 0, yes(), nil, f, f)
	x.is(t, h, 0, no(), nil, a, b)
	x.is(t, h, 0, no(), nil, a, f)
	for _, v := range []api.Value{undefined(), null()} {
		x.is(t, h, 0, no(), nil, a, v)
		x.is(t, h, 0, no(), nil, v, f)
	}
	for _, v := range []api.Value{yes(), num(1), text(""), symbol(1)} {
		x.is(t, h, 0, api.Value{}, api.ErrFuel, a, v)
		x.is(t, h, 0, api.Value{}, api.ErrFuel, v, f)
	}
}
