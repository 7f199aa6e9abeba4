package namespace_test

// 20.9: what Bind and Exports refuse, in which order, and what they do and tell.

import (
	"slices"
	"testing"

	"cameo/api"
	"cameo/args"
	"cameo/array"
	"cameo/bound"
	"cameo/call"
	"cameo/heap"
	"cameo/namespace"
	"cameo/proxy"
	"cameo/strobj"
	"cameo/typed"
)

// every is a heap with objects of every class: 1 is a namespace of a, b and 10, of which b is bound to 7; no other one is a namespace. No fuel is left.
func every(t *testing.T) *heap.Heap {
	t.Helper()
	h := newHeap(t, 60, 1000, 9)
	of(t, h, "b", "a", "10")
	bind(t, h, 1, "b", num(7))
	add := func(n int, err error) int {
		t.Helper()
		return made(t, n, err)
	}
	plainOne := object(t, h, null(), has(str("a"), num(3)))
	object(t, h, ref(1), has(str("b"), num(3)), has(tag(), text("Module")))
	f := addNative(t, h, func(api.Value, []api.Value) (api.Value, error) { return null(), nil })
	add(call.New(h, null(), nil, false))
	add(call.New(h, ref(1), nil, true))
	add(array.New(h, ref(1), 3))
	add(args.Mapped(h, null(), []api.Value{num(1)}, []string{"a", "b"}, undefined()))
	add(args.Unmapped(h, ref(1), []api.Value{num(1)}, undefined()))
	add(strobj.New(h, null(), "ab"))
	buffer := add(typed.Buffer(h, null(), 8))
	add(typed.New(h, null(), buffer, api.TInt8, 0, 8))
	add(bound.Bind(h, f, ref(1), []api.Value{ref(1)}))
	add(proxy.New(h, ref(1), ref(plainOne)))
	revoked := add(proxy.New(h, ref(1), ref(1)))
	if e := proxy.Revoke(h, revoked); e != api.OK {
		t.Fatal(e)
	}
	for class := api.CIterator; class <= api.CNative; class++ { // their layers stand above this one
		add(h.Add(class, ref(1), heap.Ordinary{}, nil))
	}
	h.Refuel(0)
	return h
}

// others is the numbers of the objects of every that are no namespaces.
func others(h *heap.Heap) []int {
	var l []int
	for o := 2; o <= h.Len(); o++ {
		l = append(l, o)
	}
	return l
}

// It has indeed all classes.
func TestEveryHasAll(t *testing.T) {
	h := every(t)
	seen := map[int]bool{}
	for _, s := range h.Shapes() {
		seen[s.Class] = true
	}
	for class := api.COrdinary; class <= api.CNative; class++ {
		if !seen[class] {
			t.Errorf("there is none of the class %d", class)
		}
	}
}

// noNames is what is no export of every's namespace.
func noNames() []string {
	return append(noStrings(), "", "c", "A", "a ", " a", "aa", "ab", "a\x00", "1", "010", "10.0", "0", "Module", "toString", "__proto__", "length", high, low, "\U0001f600", "\u00e0", tooLong)
}

// given is what Bind is given.
type given struct {
	o    int
	name string
	v    api.Value
}

// fault is one thing that is wrong with it: rank is its place in the order of the promise, where is what it turns.
type fault struct {
	where string
	rank  int
	err   api.Errno
	turn  func(g *given)
}

func bindFaults(h *heap.Heap) []fault {
	var l []fault
	add := func(where string, rank int, err api.Errno, turn func(g *given)) {
		l = append(l, fault{where, rank, err, turn})
	}
	for _, o := range append(nobody(), h.Len()+1) {
		add("o", 1, api.ErrRef, func(g *given) { g.o = o })
	}
	for _, o := range others(h) {
		add("o", 2, api.ErrKind, func(g *given) { g.o = o })
	}
	for _, v := range broken() {
		add("v", 3, api.ErrValue, func(g *given) { g.v = v })
	}
	for _, v := range append(strangers(), ref(h.Len()+1)) {
		add("v", 3, api.ErrRef, func(g *given) { g.v = v })
	}
	for _, s := range noNames() {
		add("name", 4, api.ErrRange, func(g *given) { g.name = s })
	}
	return l
}

// refusesBind holds that Bind answers the first of some faults, and changes nothing.
func refusesBind(t *testing.T, h *heap.Heap, l ...fault) {
	t.Helper()
	g := given{1, "b", num(8)}
	for _, f := range l {
		f.turn(&g)
	}
	want := slices.MinFunc(l, func(a, b fault) int { return a.rank - b.rank }).err
	if e := namespace.Bind(h, g.o, g.name, g.v); e != want || h.Fuel() != 0 {
		t.Errorf("20.9: Bind(%d, %.20q, %.80v): %v; want %v", g.o, g.name, g.v, e, want)
	}
}

// Each refusal, and of two or three the one that is named first.
func TestBindRefuses(t *testing.T) {
	h := every(t)
	before := now(h)
	l := bindFaults(h)
	for i, f := range l {
		refusesBind(t, h, f)
		for j, g := range l[:i] {
			if g.where == f.where {
				continue
			}
			refusesBind(t, h, g, f)
			if third := l[(i*31+j)%len(l)]; third.where != g.where && third.where != f.where {
				refusesBind(t, h, f, third, g)
			}
		}
	}
	if !sameMoment(now(h), before) {
		t.Error("20.9: what is refused changes something")
	}
}

// Bind of a namespace without exports has none to bind.
func TestBindNothing(t *testing.T) {
	h := newHeap(t, 1, 0, 1)
	of(t, h)
	for _, s := range append(noNames(), "a") {
		if e := namespace.Bind(h, 1, s, num(1)); e != api.ErrRange {
			t.Errorf("20.9: Bind of %.20q: %v", s, e)
		}
	}
	exports(t, h, 1, fact{})
}

func TestExportsRefuses(t *testing.T) {
	h := every(t)
	before := now(h)
	refuse := func(h *heap.Heap, o int, want api.Errno) {
		t.Helper()
		if names, values, e := namespace.Exports(h, o); len(names) != 0 || len(values) != 0 || e != want || h.Fuel() != 0 {
			t.Errorf("20.9: Exports(%d): %q, %v, %v; want %v", o, names, values, e, want)
		}
	}
	for _, o := range append(nobody(), h.Len()+1) {
		refuse(h, o, api.ErrRef)
	}
	for _, o := range others(h) {
		refuse(h, o, api.ErrKind)
	}
	empty := newHeap(t, 0, 0, 1)
	refuse(empty, 1, api.ErrRef)
	if e := namespace.Bind(empty, 1, "a", null()); e != api.ErrRef {
		t.Errorf("20.9: %v", e)
	}
	exports(t, h, 1, fact{[]string{"10", "a", "b"}, []api.Value{{}, {}, num(7)}})
	if !sameMoment(now(h), before) {
		t.Error("20.9: Exports changes something")
	}
}

// everything is values of every sort, of a heap's objects, too.
func everything(h *heap.Heap) []api.Value {
	l := append(plain(), text(string(slices.Repeat([]byte("x"), api.MaxStr))))
	for o := 1; o <= h.Len(); o++ {
		l = append(l, ref(o))
	}
	return l
}

// Whatever an export is bound to, it is told so, and bound anew as often as one likes, at no cost; nothing else changes.
func TestBind(t *testing.T) {
	h := every(t)
	second := of(t, h, "a", "b", "10")
	shapes := h.Shapes()
	want := fact{[]string{"10", "a", "b"}, []api.Value{{}, {}, num(7)}}
	for i, name := range want.names {
		for _, v := range everything(h) {
			for range 2 {
				bind(t, h, 1, name, v)
				want.values[i] = v
				exports(t, h, 1, want)
			}
			h.Refuel(3)
			if got, err := h.Get(1, str(name), null()); !sameValue(got, v) || err != nil {
				t.Errorf("20.9: Get of %q: %.80v, %v; want %.80v", name, got, err, v)
			}
			if d, ok, err := h.GetOwnProperty(1, str(name)); !sameDesc(d, data(v, "we")) || !ok || err != nil || h.Fuel() != 0 {
				t.Errorf("20.9: GetOwnProperty of %q: %.80v, %v, %v; want %.80v", name, d.Value, ok, err, v)
			}
		}
	}
	exports(t, h, second, fact{want.names, make([]api.Value, 3)})
	if !sameShapes(h.Shapes(), shapes) {
		t.Error("20.9: Bind changes shapes")
	}
}

// What is bound does not depend on the fuel and the depth that are left, and the last one counts.
func TestBindAnew(t *testing.T) {
	h := newHeap(t, 1, 0, 1)
	of(t, h, "x", "y")
	for i := range 100 {
		bind(t, h, 1, "x", num(float64(i)))
		exports(t, h, 1, fact{[]string{"x", "y"}, []api.Value{num(float64(i)), {}}})
	}
	h.Refuel(2)
	gets(1, str("x"), null()).is(t, h, 1, num(99), nil)
	gets(1, str("y"), null()).is(t, h, 1, nil, referenceError())
}
