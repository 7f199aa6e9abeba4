package namespace_test

// 20.3: descriptors of every sort, defined under exports that are bound to anything or to nothing yet, under symbols, and under what is no export.

import (
	"testing"

	"cameo/api"
	"cameo/heap"
)

// descriptors is every descriptor that is well formed, with these values and functions as its fields.
func descriptors(values, functions []api.Value) []api.Desc {
	tris := []api.Tri{api.Absent, api.No, api.Yes}
	values, functions = append(values, api.Value{}), append(functions, api.Value{})
	var l []api.Desc
	for _, e := range tris {
		for _, c := range tris {
			for _, w := range tris {
				for _, v := range values {
					l = append(l, api.Desc{Value: v, Writable: w, Enumerable: e, Configurable: c})
				}
			}
			for _, get := range functions {
				for _, set := range functions {
					if get != set || get != (api.Value{}) {
						l = append(l, api.Desc{Get: get, Set: set, Enumerable: e, Configurable: c})
					}
				}
			}
		}
	}
	return l
}

// forge is a heap with the objects 1 (a namespace of a, b and 0), 2 (a native function, which must not be called), 3 (another namespace of these).
func forge(t *testing.T) *heap.Heap {
	t.Helper()
	h := newHeap(t, 3, 1<<30, 3)
	of(t, h, "a", "b", "0")
	addNative(t, h, func(api.Value, []api.Value) (api.Value, error) {
		t.Error("20.3: an accessor is called")
		return null(), nil
	})
	of(t, h, "0", "b", "a")
	return h
}

// candidates is values, no two of which are the same.
func candidates() []api.Value {
	return append(plain(), num(2), num(-1), text("b"), text("A"), text("a "), text("modulE"), text(low), text("\uffff"), symbol(2), ref(1), ref(2), ref(3))
}

// all holds what each descriptor comes to that is defined under a key, and answers how many were defined; wrong is what ends each of them.
func all(t *testing.T, h *heap.Heap, k api.Key, cost int, wants func(d api.Desc) bool, wrong error) int {
	t.Helper()
	before, yes := now(h), 0
	for _, d := range descriptors(candidates(), []api.Value{undefined(), ref(2)}) {
		want := wrong == nil && wants(d)
		if want {
			yes++
		}
		fuel := h.Fuel()
		if ok, err := h.DefineOwnProperty(1, k, d); ok != want || !sameError(err, wrong) || fuel-h.Fuel() != cost {
			t.Errorf("20.3: %v by %v: %v, %v, %d spent; want %v, %v, %d", k, d, ok, err, fuel-h.Fuel(), want, wrong, cost)
		}
	}
	if after := now(h); !sameMoment(before, after) {
		t.Errorf("20.3: %v became %v", before, after)
	}
	return yes
}

// asItIs tells whether a descriptor is what lies there, in part or in all.
func asItIs(now api.Desc) func(d api.Desc) bool {
	return func(d api.Desc) bool { return fits(now, d) }
}

func never(api.Desc) bool { return false }

// Whatever an export is bound to, it may be defined as what it is, in part or in all, and as nothing else: its Value, Writable Yes, Enumerable Yes and Configurable No, each there or not.
func TestDefineBound(t *testing.T) {
	h := forge(t)
	bind(t, h, 3, "a", num(1))
	for _, k := range []string{"a", "0"} {
		for _, v := range candidates() {
			bind(t, h, 1, k, v)
			if yes := all(t, h, str(k), 3, asItIs(data(v, "we")), nil); yes != 16 {
				t.Errorf("20.3: %q, bound to %v: %d descriptors are defined", k, v, yes)
			}
		}
	}
}

// The values that are easily taken for one another.
func TestDefineNear(t *testing.T) {
	for _, c := range []struct {
		bound, defined api.Value
		want           bool
	}{
		{num(0), num(0), true}, {num(0), num(below0), false}, {num(below0), num(0), false}, {num(below0), num(below0), true},
		{num(nan), num(nan), true}, {num(nan), undefined(), false}, {undefined(), num(nan), false}, {num(nan), num(0), false},
		{num(1), text("1"), false}, {text("1"), num(1), false}, {num(1), yes(), false}, {num(0), no(), false}, {text(""), no(), false},
		{undefined(), undefined(), true}, {undefined(), null(), false}, {null(), undefined(), false}, {null(), null(), true},
		{symbol(1), ref(1), false}, {ref(1), symbol(1), false}, {ref(1), ref(1), true}, {ref(1), ref(3), false}, {symbol(1), symbol(2), false},
		{text(high), text(high), true}, {text(high), text(low), false}, {text("\U0001f600"), text("\U0001f600"), true},
	} {
		h := forge(t)
		bind(t, h, 1, "a", c.bound)
		for _, d := range []api.Desc{{Value: c.defined}, data(c.defined, "we"), {Value: c.defined, Writable: api.Yes}, {Value: c.defined, Enumerable: api.Yes}, {Value: c.defined, Configurable: api.No}} {
			defines(1, str("a"), d).stays(t, h, 3, c.want, nil)
		}
		for _, d := range []api.Desc{data(c.defined, "w"), data(c.defined, "e"), data(c.defined, ""), data(c.defined, "wec"), {Value: c.defined, Writable: api.No}, {Value: c.defined, Enumerable: api.No}, {Value: c.defined, Configurable: api.Yes}} {
			defines(1, str("a"), d).stays(t, h, 3, false, nil)
		}
	}
}

// What is bound to nothing yet throws whatever is defined, also what could not be.
func TestDefineUnbound(t *testing.T) {
	h := forge(t)
	bind(t, h, 1, "a", num(1))
	bind(t, h, 3, "b", num(1))
	for _, k := range []string{"b", "0"} {
		all(t, h, str(k), 3, never, referenceError())
	}
}

// What is no export is none ever after.
func TestDefineNone(t *testing.T) {
	h := forge(t)
	bind(t, h, 1, "a", num(1))
	for _, k := range []api.Key{str("c"), str(""), str("1"), str("00"), str("aa"), str("Module"), str("\u00e1")} {
		all(t, h, k, 2, never, nil)
	}
}

// Symbols are an ordinary object's: what lies there may be defined as what it is, nothing else comes.
func TestDefineSymbols(t *testing.T) {
	h := forge(t)
	if yes := all(t, h, tag(), 1, asItIs(data(text("Module"), "")), nil); yes != 16 {
		t.Errorf("9.5: %d descriptors are defined", yes)
	}
	for _, n := range []int{1, api.SymToStringTag - 1, api.SymToStringTag + 1, 14, 65536} {
		all(t, h, sym(n), 1, never, nil)
	}
}

// What is bound anew is from then on what it may be defined as.
func TestDefineAnew(t *testing.T) {
	h := forge(t)
	one, two := api.Desc{Value: num(1)}, api.Desc{Value: num(2)}
	defines(1, str("a"), one).is(t, h, 3, nil, referenceError())
	for range 3 {
		bind(t, h, 1, "a", num(1))
		defines(1, str("a"), one).is(t, h, 3, true, nil)
		defines(1, str("a"), two).is(t, h, 3, false, nil)
		bind(t, h, 1, "a", num(2))
		defines(1, str("a"), one).is(t, h, 3, false, nil)
		defines(1, str("a"), two).is(t, h, 3, true, nil)
	}
}
