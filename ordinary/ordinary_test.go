package ordinary_test

// The methods that look at one object alone, and the chapter's examples.

import (
	"math/rand"
	"slices"
	"testing"

	"cameo/api"
	"cameo/desc"
	"cameo/heap"
	"cameo/ordinary"
)

// Examples 1, 2 and 4 of the chapter, one behind the other.
func TestExamples(t *testing.T) {
	h := newHeap(t, 2, 100, 9)
	a, z := str("a"), str("z")
	made(t, h, null())
	made(t, h, ref(1))
	yields(t, h, "define", 1, true, func() (bool, error) { return h.DefineOwnProperty(1, a, data(num(5), "wec")) })
	yields(t, h, "get", 2, num(5), func() (api.Value, error) { return h.Get(2, a, ref(2)) })
	yields(t, h, "set", 4, true, func() (bool, error) { return h.Set(2, a, num(6), ref(2)) })
	yields(t, h, "get 2", 1, num(6), func() (api.Value, error) { return h.Get(2, a, ref(2)) })
	yields(t, h, "get 1", 1, num(5), func() (api.Value, error) { return h.Get(1, a, ref(1)) })
	yields(t, h, "a round", 1, false, func() (bool, error) { return h.SetPrototypeOf(1, ref(2)) })
	yields(t, h, "no prototype", 1, true, func() (bool, error) { return h.SetPrototypeOf(2, null()) })
	yields(t, h, "prevent", 1, true, func() (bool, error) { return h.PreventExtensions(1) })
	yields(t, h, "define z", 1, false, func() (bool, error) { return h.DefineOwnProperty(1, z, api.Desc{Value: num(1)}) })
	yields(t, h, "delete", 1, true, func() (bool, error) { return h.Delete(1, a) })
	yields(t, h, "define again", 1, false, func() (bool, error) { return h.DefineOwnProperty(1, a, data(num(5), "wec")) })
	want := []api.Shape{
		{Class: api.COrdinary, Proto: null()},
		{Class: api.COrdinary, Proto: null(), Extensible: true, Props: []api.Prop{{Key: a, Desc: data(num(6), "wec")}}},
	}
	if !sameShapes(h.Shapes(), want) {
		t.Errorf("%v", h.Shapes())
	}
}

// Example 3, and what lies there behind it: the order in which they came.
func TestExampleOfKeys(t *testing.T) {
	h := newHeap(t, 1, 100, 9)
	o := made(t, h, null())
	came := []api.Key{str("b"), str("2"), sym(1), str("a"), str("1")}
	for _, k := range came {
		lay(t, h, o, k, data(num(1), ""))
	}
	l, err := h.OwnPropertyKeys(o)
	if !slices.Equal(l, []api.Key{str("1"), str("2"), str("b"), str("a"), sym(1)}) || err != nil || h.Fuel() != 99 {
		t.Errorf("9.10: %v, %v", l, err)
	}
	s, _ := h.Shape(o)
	for i, p := range s.Props {
		if p.Key != came[i] {
			t.Errorf("9.5: %v", s.Props)
		}
	}
}

// 9.1, 9.3: they cost one unit each, and look at nothing but the object.
func TestPrototypeAndExtensible(t *testing.T) {
	h := newHeap(t, 2, 100, 1)
	made(t, h, null())
	made(t, h, ref(1))
	for range 2 {
		yields(t, h, "GetPrototypeOf(1)", 1, null(), func() (api.Value, error) { return h.GetPrototypeOf(1) })
		yields(t, h, "GetPrototypeOf(2)", 1, ref(1), func() (api.Value, error) { return h.GetPrototypeOf(2) })
	}
	yields(t, h, "IsExtensible", 1, true, func() (bool, error) { return h.IsExtensible(2) })
	for range 2 { // once more changes nothing
		yields(t, h, "PreventExtensions", 1, true, func() (bool, error) { return h.PreventExtensions(2) })
		yields(t, h, "IsExtensible", 1, false, func() (bool, error) { return h.IsExtensible(2) })
		yields(t, h, "GetPrototypeOf", 1, ref(1), func() (api.Value, error) { return h.GetPrototypeOf(2) })
		yields(t, h, "IsExtensible of another", 1, true, func() (bool, error) { return h.IsExtensible(1) })
	}
}

// 9.2, clause by clause: the same prototype, one that is not extensible, rounds of each length, and what stands behind a proxy.
func TestSetPrototypeOf(t *testing.T) {
	h := newHeap(t, 9, 1000, 1)
	for _, p := range []api.Value{null(), ref(1), ref(2), ref(3), null()} {
		made(t, h, p)
	}
	proxy := addProxy(t, h, ref(1)) // 6
	made(t, h, ref(proxy))          // 7
	for i, c := range []struct {
		o    int
		v    api.Value
		want bool
	}{
		{4, ref(3), true}, {1, null(), true}, // the same
		{1, ref(1), false}, {1, ref(2), false}, {1, ref(4), false}, {2, ref(4), false}, {3, ref(3), false}, // rounds
		{4, ref(1), true}, {4, null(), true}, {4, ref(3), true}, // back down is none
		{5, ref(4), true}, {1, ref(5), false}, {5, null(), true}, {1, ref(5), true}, {5, ref(4), false}, {1, null(), true},
		{1, ref(7), true}, {1, ref(6), true}, {1, null(), true}, // nobody looks behind the proxy
		{7, ref(7), false}, {7, ref(1), true},
	} {
		before := h.Shapes()
		yields(t, h, "SetPrototypeOf", 1, c.want, func() (bool, error) { return h.SetPrototypeOf(c.o, c.v) })
		if c.want {
			before[c.o-1].Proto = c.v
		}
		if !sameShapes(h.Shapes(), before) {
			t.Errorf("9.2: %d, %v: %v", i, c, h.Shapes())
		}
	}
	shut(t, h, 4)
	before := h.Shapes()
	for v, want := range map[api.Value]bool{ref(3): true, null(): false, ref(1): false, ref(4): false, ref(6): false} {
		yields(t, h, "not extensible", 1, want, func() (bool, error) { return h.SetPrototypeOf(4, v) })
	}
	if !sameShapes(h.Shapes(), before) {
		t.Errorf("9.2: %v", h.Shapes())
	}
}

// 9.2: a long chain is gone through whole, at one unit and one deep.
func TestLongRound(t *testing.T) {
	h := newHeap(t, api.MaxObjects, 10, 1)
	made(t, h, null())
	for n := 1; n < api.MaxObjects; n++ {
		made(t, h, ref(n))
	}
	yields(t, h, "a long round", 1, false, func() (bool, error) { return h.SetPrototypeOf(1, ref(api.MaxObjects)) })
	l, e := ordinary.Chain(h, api.MaxObjects)
	if e != api.OK || len(l) != api.MaxObjects-1 || l[0] != api.MaxObjects-1 || l[len(l)-1] != 1 {
		t.Errorf("9.11: %d members, %v", len(l), e)
	}
	if at := ordinary.Sound(h.Shapes()); at != -1 {
		t.Errorf("9.12: %d", at)
	}
}

// some is descriptors that are whole, and f is a function's number.
func some(f int) []api.Desc {
	return []api.Desc{
		data(num(1), "wec"), data(num(1), "ec"), data(num(1), "we"), data(num(1), ""), data(text("x"), "w"), data(undefined(), "c"),
		accessor(ref(f), ref(f), "ec"), accessor(ref(f), undefined(), "c"), accessor(undefined(), ref(f), "e"), accessor(undefined(), undefined(), ""),
	}
}

// 9.4, 9.5, 9.9: of each property that may lie there, or none, on an object that is extensible or not, whatever is defined; what desc.Apply answers is what happens.
func TestDefineOwnProperty(t *testing.T) {
	partial := []api.Desc{{}, {Value: num(1)}, {Value: num(2)}, {Writable: api.Yes}, {Writable: api.No}, {Enumerable: api.Yes}, {Enumerable: api.No},
		{Configurable: api.Yes}, {Configurable: api.No}, {Get: ref(1)}, {Set: ref(1)}, {Get: undefined()}, {Set: undefined(), Configurable: api.No}}
	here := append(some(1), api.Desc{})
	for _, now := range here {
		for _, d := range append(some(1), partial...) {
			for _, open := range []bool{true, false} {
				defines(t, now, d, open)
			}
		}
	}
}

func defines(t *testing.T, now, d api.Desc, open bool) {
	t.Helper()
	h := newHeap(t, 3, 100, 1)
	addFunction(t, h, nil)
	made(t, h, null())
	o := made(t, h, ref(2)) // what the prototype has is nobody's matter here
	lay(t, h, 2, str("k"), data(num(9), ""))
	lay(t, h, o, str("first"), data(num(1), "wec"))
	lay(t, h, o, str("k"), now)
	lay(t, h, o, str("last"), data(num(2), "wec"))
	if !open {
		shut(t, h, o)
	}
	next, want, e := desc.Apply(open, now, d)
	shapes := h.Shapes()
	at := slices.IndexFunc(shapes[o-1].Props, func(p api.Prop) bool { return p.Key == str("k") })
	switch {
	case want && at >= 0:
		shapes[o-1].Props[at].Desc = next
	case want:
		shapes[o-1].Props = append(shapes[o-1].Props, api.Prop{Key: str("k"), Desc: next})
	}
	yields(t, h, "9.5", 1, want, func() (bool, error) { return h.DefineOwnProperty(o, str("k"), d) })
	if !sameShapes(h.Shapes(), shapes) || e != api.OK {
		t.Errorf("9.5: %v by %v (%v): %v, want %v", now, d, open, h.Shapes(), shapes)
	}
	lies := now
	if want {
		lies = next
	}
	tells(t, h, o, lies)
	deletes(t, h, o, lies)
}

// 9.4
func tells(t *testing.T, h *heap.Heap, o int, lies api.Desc) {
	t.Helper()
	was := h.Fuel()
	d, ok, err := h.GetOwnProperty(o, str("k"))
	if d != lies || ok != (lies != api.Desc{}) || err != nil || was-h.Fuel() != 1 {
		t.Errorf("9.4: %v, %v, %v; want %v", d, ok, err, lies)
	}
}

// 9.9: whether it is extensible is nobody's matter there.
func deletes(t *testing.T, h *heap.Heap, o int, lies api.Desc) {
	t.Helper()
	shapes := h.Shapes()
	want := lies.Configurable != api.No
	if want {
		shapes[o-1].Props = slices.DeleteFunc(shapes[o-1].Props, func(p api.Prop) bool { return p.Key == str("k") })
	}
	for range 2 {
		yields(t, h, "9.9", 1, want, func() (bool, error) { return h.Delete(o, str("k")) })
		if !sameShapes(h.Shapes(), shapes) {
			t.Errorf("9.9: %v, want %v", h.Shapes(), shapes)
		}
	}
}

// 9.10: indices rise, then strings, then symbols as they came; what was taken away and comes again stands last.
func TestOrderOfKeys(t *testing.T) {
	indices := []api.Key{str("0"), str("1"), str("2"), str("9"), str("10"), str("4294967294")}
	strings := []api.Key{str("b"), str("4294967295"), str("01"), str(""), str("-1"), str("1.5"), str("a"), str("1e3"), str("\U0001F600")}
	symbols := []api.Key{sym(7), sym(1), sym(65536), sym(14)}
	for seed := range int64(300) {
		r := rand.New(rand.NewSource(seed))
		strings, symbols := shuffled(r, strings), shuffled(r, symbols)
		h := newHeap(t, 1, 1000, 1)
		o := made(t, h, null())
		for _, k := range merged(r, shuffled(r, indices), strings, symbols) {
			lay(t, h, o, k, data(num(1), "wec"))
		}
		asks(t, h, o, slices.Concat(indices, strings, symbols))
		for _, k := range []api.Key{strings[0], symbols[0], indices[3]} {
			lay(t, h, o, k, data(num(2), "wec")) // at its place
		}
		asks(t, h, o, slices.Concat(indices, strings, symbols))
		for _, k := range []api.Key{strings[0], symbols[0], indices[3]} {
			h.Delete(o, k)
		}
		asks(t, h, o, slices.Concat(indices[:3], indices[4:], strings[1:], symbols[1:]))
		for _, k := range []api.Key{strings[0], symbols[0], indices[3]} {
			lay(t, h, o, k, data(num(2), "wec"))
		}
		asks(t, h, o, slices.Concat(indices, strings[1:], strings[:1], symbols[1:], symbols[:1]))
	}
}

func asks(t *testing.T, h *heap.Heap, o int, want []api.Key) {
	t.Helper()
	was := h.Fuel()
	l, err := h.OwnPropertyKeys(o)
	if !slices.Equal(l, want) || err != nil || was-h.Fuel() != 1 {
		t.Fatalf("9.10: %v, %v, want %v", l, err, want)
	}
}

func shuffled(r *rand.Rand, l []api.Key) []api.Key {
	l = slices.Clone(l)
	r.Shuffle(len(l), func(i, j int) { l[i], l[j] = l[j], l[i] })
	return l
}

// merged is the lists in one, each in its order.
func merged(r *rand.Rand, lists ...[]api.Key) []api.Key {
	var l []api.Key
	for {
		lists = slices.DeleteFunc(lists, func(x []api.Key) bool { return len(x) == 0 })
		if len(lists) == 0 {
			return l
		}
		i := r.Intn(len(lists))
		l = append(l, lists[i][0])
		lists[i] = lists[i][1:]
	}
}
