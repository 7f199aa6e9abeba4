package proxy_test

// 19.5: properties that a trap is asked to define, by descriptors as objects.

import (
	"testing"

	"cameo/api"
	"cameo/heap"
)

// defineSteps is what DefineOwnProperty of a goes through up to the trap's answer, and what follows. The descriptor is the last object of the heap.
func defineSteps(more ...string) []string {
	return append([]string{silent, "get H defineProperty H", `call f H T "a" #60`}, more...)
}

// asObject is the shape of a descriptor as an object.
func asObject(d api.Desc) api.Shape {
	var l []api.Prop
	add := func(k string, there bool, v api.Value) {
		if there {
			l = append(l, has(k, v))
		}
	}
	add("value", d.Value.Kind != api.KNone, d.Value)
	add("writable", d.Writable != api.Absent, flag(d.Writable))
	add("get", d.Get.Kind != api.KNone, d.Get)
	add("set", d.Set.Kind != api.KNone, d.Set)
	add("enumerable", d.Enumerable != api.Absent, flag(d.Enumerable))
	add("configurable", d.Configurable != api.Absent, flag(d.Configurable))
	return api.Shape{Class: api.COrdinary, Proto: null(), Extensible: true, Props: l}
}

// defineScene is a definition, and what it comes to; nil: a TypeError.
func defineScene(name string, fixed bool, now, d api.Desc, answer api.Value, steps []string, want any) scene {
	x := scene{name: name, steps: steps, want: want, makes: 1, build: func(s stage) act {
		getters(s)
		return defines(s.trapped(targetOf(s, fixed, now), "defineProperty", answer), str("a"), d)
	}, left: func(t *testing.T, h *heap.Heap, n int) {
		if n > 2 { // it is made behind the trap being asked for, ahead of its call
			looks(t, h, 60, asObject(d))
		} else if n < 2 && h.Len() != 59 {
			t.Errorf("made too early, at %d", n)
		}
	}}
	if want == nil {
		x.wrong = typeError()
	}
	return x
}

// defined is a target's property, and a descriptor by which a trap says that it has defined it.
type defined struct {
	name  string
	fixed bool
	now   api.Desc
	d     api.Desc
	ok    bool // else a TypeError
}

func defineds() []defined {
	g, s, u := funcG, funcS, undefined()
	none := api.Desc{}
	v := num(1)
	return []defined{
		{"new", false, none, open(v), true},
		{"new, nothing said", false, none, none, true},
		{"new, configurable not said", false, none, api.Desc{Value: v, Writable: api.No, Enumerable: api.No}, true},
		{"new, an accessor", false, none, api.Desc{Get: g, Set: s}, true},
		{"new, not configurable", false, none, api.Desc{Configurable: api.No}, false},
		{"new, fixed", false, none, shut(v), false},
		{"new, not extensible", true, none, open(v), false},
		{"new, not extensible, nothing said", true, none, none, false},
		{"neither", true, none, shut(v), false},
		{"as it is", false, open(v), open(v), true},
		{"nothing said", true, open(v), none, true},
		{"another value", true, open(v), api.Desc{Value: num(2)}, true},
		{"another kind", true, open(v), api.Desc{Get: g}, true},
		{"other flags", true, open(v), data(num(3), api.No, api.No, api.Yes), true},
		{"read-only", false, open(v), api.Desc{Writable: api.No}, true},
		{"configurable, said not to be", false, open(v), api.Desc{Configurable: api.No}, false},
		{"configurable, fixed", true, open(v), shut(v), false},
		{"an accessor, said not to be configurable", false, accessor(g, s, api.No, api.Yes), api.Desc{Configurable: api.No}, false},
		{"fixed, as it is", true, shut(v), shut(v), true},
		{"fixed, nothing said", true, shut(v), none, true},
		{"fixed, configurable said not to be", false, shut(v), api.Desc{Configurable: api.No}, true},
		{"fixed, said to be configurable", false, shut(v), api.Desc{Configurable: api.Yes}, false},
		{"fixed, said to be enumerable", false, shut(v), api.Desc{Enumerable: api.Yes}, true},
		{"fixed, said not to be enumerable", false, shut(v), api.Desc{Enumerable: api.No}, false},
		{"fixed, said to be writable", false, shut(v), api.Desc{Writable: api.Yes}, false},
		{"fixed, said not to be writable", false, shut(v), api.Desc{Writable: api.No}, true},
		{"fixed, its value", false, shut(v), api.Desc{Value: v}, true},
		{"fixed, another value", false, shut(v), api.Desc{Value: num(2)}, false},
		{"fixed, another nought", false, shut(num(0)), api.Desc{Value: num(below0)}, false},
		{"fixed, not a number", false, shut(num(nan)), api.Desc{Value: num(nan)}, true},
		{"fixed, as an accessor", false, shut(v), api.Desc{Get: u}, false},
		{"writable, as it is", true, data(v, api.Yes, api.Yes, api.No), data(v, api.Yes, api.Yes, api.No), true},
		{"writable, another value", true, data(v, api.Yes, api.Yes, api.No), api.Desc{Value: num(2)}, true},
		{"writable, said not to be", false, data(v, api.Yes, api.Yes, api.No), api.Desc{Writable: api.No}, false},
		{"writable, said not to be, with its value", true, data(v, api.Yes, api.Yes, api.No), shut(v), false},
		{"writable, generic", false, data(v, api.Yes, api.Yes, api.No), api.Desc{Enumerable: api.Yes, Configurable: api.No}, true},
		{"an accessor, as it is", false, accessor(g, s, api.Yes, api.No), accessor(g, s, api.Yes, api.No), true},
		{"an accessor, its getter", false, accessor(g, s, api.Yes, api.No), api.Desc{Get: g}, true},
		{"an accessor, another getter", false, accessor(g, s, api.Yes, api.No), api.Desc{Get: s}, false},
		{"an accessor, no setter", false, accessor(g, s, api.Yes, api.No), api.Desc{Set: u}, false},
		{"an accessor, as data", false, accessor(g, s, api.Yes, api.No), api.Desc{Writable: api.No}, false},
	}
}

// 19.5
func TestDefine(t *testing.T) {
	var l []scene
	for _, x := range defineds() {
		var want any
		if x.ok {
			want = true
		}
		l = append(l, defineScene(x.name, x.fixed, x.now, x.d, yes(), defineSteps("own T a", "ext T"), want))
		// What is not truthy is no, whatever could be said of it.
		l = append(l, defineScene(x.name+", not done", x.fixed, x.now, x.d, num(0), defineSteps(), false))
	}
	for _, v := range falsy() {
		l = append(l, defineScene("not done "+tell(v), true, shut(num(1)), shut(num(2)), v, defineSteps(), false))
	}
	for _, v := range append(truthy(), ref(1)) {
		l = append(l, defineScene("done "+tell(v), true, shut(num(1)), shut(num(1)), v, defineSteps("own T a", "ext T"), true))
		l = append(l, defineScene("said to be done "+tell(v), true, shut(num(1)), shut(num(2)), v, defineSteps("own T a", "ext T"), nil))
	}
	scenes(t, l)
}

// 19.5: the descriptor is made behind the trap being asked for, and ahead of its call: without room that is not called; without a trap nothing is made.
func TestDefineWithoutRoom(t *testing.T) {
	scenes(t, []scene{
		{name: "a trap", steps: []string{silent, "get H defineProperty H"}, wrong: api.ErrFull, build: func(s stage) act {
			return defines(s.trapped(s.seer("T", null()), "defineProperty", yes()), str("a"), open(num(1)))
		}},
		{name: "no trap", steps: []string{silent, "get H defineProperty H", "define T a value=1,w+,e+,c+"}, want: true, build: func(s stage) act {
			return defines(s.proxy("P", s.seer("T", null()), s.seer("H", null())), str("a"), open(num(1)))
		}},
		{name: "a trap that is no function", steps: []string{silent, "get H defineProperty H"}, wrong: typeError(), build: func(s stage) act {
			return defines(s.proxy("P", s.seer("T", null()), s.seer("H", null(), has("defineProperty", num(1)))), str("a"), open(num(1)))
		}},
	})
	// A getter of the trap takes the last place.
	h := newHeap(t, 6, 100, 9)
	target, f := ordinary(t, h, null()), giving(t, h, yes())
	body := []api.Op{{Code: api.OConst, To: 1, Val: null()}, {Code: api.OMake, To: 2, A: 1}, {Code: api.OConst, To: 0, Val: ref(f)}, {Code: api.OReturn}}
	p := of(t, h, target, ordinary(t, h, null(), got("defineProperty", fn(t, h, body...))))
	defines(p, str("a"), open(num(1))).is(t, h, 1+1+1+4, nil, api.ErrFull)
	if h.Len() != 6 {
		t.Errorf("%d objects", h.Len())
	}
}

// 19.5: each descriptor comes as an object of its own, with the fields that are there in it.
func TestDefineAsObject(t *testing.T) {
	h := newHeap(t, 60, 1000, 9)
	g := giving(t, h, num(1))
	target := ordinary(t, h, null())
	var seen []api.Value
	f := addNative(t, h, func(this api.Value, l []api.Value) (api.Value, error) {
		seen = l
		return no(), nil
	})
	handler := ordinary(t, h, null(), has("defineProperty", ref(f)))
	p := of(t, h, target, handler)
	for _, d := range []api.Desc{
		{}, open(text("x")), {Value: undefined()}, {Value: null(), Writable: api.No}, {Writable: api.Yes}, {Enumerable: api.No}, {Configurable: api.Yes},
		{Get: ref(g)}, {Set: ref(g)}, {Get: undefined(), Set: ref(g), Enumerable: api.Yes, Configurable: api.No}, {Value: ref(p)}, {Value: symbol(3)}, {Value: num(below0)},
	} {
		for _, k := range []api.Key{str("a"), str(""), str("7"), sym(9)} {
			defines(p, k, d).is(t, h, 3, false, nil)
			n := h.Len()
			name := text(k.Str)
			if k.Sym != 0 {
				name = symbol(k.Sym)
			}
			if len(seen) != 3 || seen[0] != ref(target) || seen[1] != name || seen[2] != ref(n) {
				t.Fatalf("19.5: %v", seen)
			}
			looks(t, h, n, asObject(d))
		}
	}
}
