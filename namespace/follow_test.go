package namespace_test

// 20.10, 20.11, W2, W3: what follows, over namespaces and acts drawn at random, behind each act and within each function that is called.

import (
	"slices"
	"testing"

	"cameo/api"
	"cameo/desc"
	"cameo/heap"
	"cameo/invariant"
	"cameo/namespace"
	"cameo/ordinary"
)

// ledger is what the namespaces of a heap must have: what New was given, and what was bound last.
type ledger map[int]map[string]api.Value

// reading is the package, with each New and each Bind that was done written down.
func (l ledger) reading() reading {
	r := byPackage()
	r.make = func(h *heap.Heap, names []string) (int, error) {
		o, err := namespace.New(h, names)
		if err == nil {
			l[o] = map[string]api.Value{}
			for _, s := range names {
				l[o][s] = api.Value{}
			}
		}
		return o, err
	}
	r.bind = func(h *heap.Heap, o int, name string, v api.Value) api.Errno {
		e := namespace.Bind(h, o, name, v)
		if e == api.OK {
			l[o][name] = v
		}
		return e
	}
	return r
}

// fact is what Exports must answer.
func (l ledger) fact(o int) fact {
	var names []string
	for name := range l[o] {
		names = append(names, name)
	}
	f := fact{names: twinSorted(names)}
	for _, name := range f.names {
		f.values = append(f.values, l[o][name])
	}
	return f
}

// shown is an export as somebody saw it.
type shown struct {
	o    int
	name string
}

// watch is the moments of a heap.
type watch struct {
	t       *testing.T
	h       *heap.Heap
	c       *chance // what receivers are drawn from: not the acts' own, which must not hang on how often one looks
	ledger  ledger
	moments [][]api.Shape
	seen    map[shown]api.Desc // how each export was told last
	looks   int                // at exports that are bound
	unbound int                // and such that are not
	looking bool
}

// look holds this moment against what always holds, and against all earlier ones.
func (w *watch) look() {
	if w.h == nil || w.looking {
		return // it is being built, or this is the look's own doing
	}
	w.looking = true
	fuel := w.h.Fuel()
	w.h.Refuel(1 << 20)
	defer func() { w.looking = false; w.h.Refuel(fuel) }()
	shapes := w.h.Shapes()
	if at := ordinary.Sound(shapes); at != -1 {
		w.t.Fatalf("W2: %d is not sound: %v", at+1, shapes)
	}
	for _, before := range w.moments {
		if o, rule := invariant.Broken(before, shapes); rule != 0 {
			w.t.Fatalf("20.10: %d breaks the rule %d: %v became %v", o, rule, before, shapes)
		}
	}
	w.moments = append(w.moments, shapes)
	for i, s := range shapes {
		if _, ok := w.ledger[i+1]; ok != (s.Class == api.CNamespace) {
			w.t.Fatalf("20.8: %d is of the class %d", i+1, s.Class)
		} else if ok {
			w.namespace(i+1, s)
		}
	}
}

// namespace holds a namespace against the ledger. It may be that there is no room to look.
func (w *watch) namespace(o int, s api.Shape) {
	if !sameShape(s, namespaceShape()) {
		w.t.Fatalf("20.10: %d became %v", o, s)
	}
	want := w.ledger.fact(o)
	if got, e := exportsOf(w.h, o); !sameFact(got, want) || e != api.OK {
		w.t.Fatalf("20.9: Exports(%d): %v, %v; want %v", o, got, e, want)
	}
	keys, err := w.h.OwnPropertyKeys(o)
	if err == api.ErrDepth {
		return
	}
	var all []api.Key
	for _, name := range want.names {
		all = append(all, str(name))
	}
	if !slices.Equal(keys, append(all, tag())) || err != nil {
		w.t.Fatalf("20.7: the keys of %d are %v, %v; want %v", o, keys, err, all)
	}
	w.has(o, keys)
	for i, name := range want.names {
		w.export(o, name, want.values[i])
	}
}

// has holds HasProperty, GetOwnProperty and Delete against the keys.
func (w *watch) has(o int, keys []api.Key) {
	l := []api.Key{tag(), sym(1), sym(3), str("c"), str("__proto__"), w.c.key()}
	for _, s := range words() {
		l = append(l, str(s))
	}
	for _, k := range l {
		want := slices.Contains(keys, k)
		if ok, err := w.h.HasProperty(o, k); ok != want || err != nil {
			w.t.Fatalf("20.11: HasProperty(%d, %v): %v, %v; its keys are %v", o, k, ok, err, keys)
		}
		if ok, err := w.h.Delete(o, k); ok == want || err != nil {
			w.t.Fatalf("20.6: Delete(%d, %v): %v, %v; its keys are %v", o, k, ok, err, keys)
		}
	}
}

// export holds an export against what was bound last, and what is told of it against what was told.
func (w *watch) export(o int, name string, want api.Value) {
	receiver := pick(w.c, null(), w.c.value(), ref(o))
	v, err := w.h.Get(o, str(name), receiver)
	if want == (api.Value{}) {
		w.unbound++
		if v != want || !sameError(err, referenceError()) {
			w.t.Fatalf("20.11: Get(%d, %q): %v, %v; it is bound to nothing", o, name, v, err)
		}
		return
	}
	w.looks++
	if !sameValue(v, want) || err != nil {
		w.t.Fatalf("20.11: Get(%d, %q, %v): %v, %v; want %v", o, name, receiver, v, err, want)
	}
	d, ok, err := w.h.GetOwnProperty(o, str(name))
	if err == api.ErrDepth {
		return
	}
	if !ok || err != nil || !sameDesc(d, data(want, "we")) {
		w.t.Fatalf("20.2: GetOwnProperty(%d, %q): %v, %v, %v; want %v", o, name, d, ok, err, want)
	}
	if was, told := w.seen[shown{o, name}]; told {
		if ok, e := desc.Keeps(was, d); !ok || e != api.OK {
			w.t.Fatalf("W3: %d: %q was %v and is %v", o, name, was, d)
		}
	}
	w.seen[shown{o, name}] = d
}

func TestWhatFollows(t *testing.T) {
	t.Parallel()
	within, looks, unbound := 0, 0, 0
	for seed := range int64(1200) {
		w := &watch{t: t, c: newChance(seed, last), ledger: ledger{}, seen: map[shown]api.Desc{}}
		by := w.ledger.reading()
		h, c := build(t, seed, 12, by, func() { within++; w.look() })
		w.h = h
		for range 12 {
			h.Refuel(200)
			do(h, c, by)
			w.look()
		}
		looks, unbound = looks+w.looks, unbound+w.unbound
	}
	if within < 2000 || min(looks, unbound) < 100000 {
		t.Errorf("functions looked %d times; %d exports were bound, %d were not", within, looks, unbound)
	}
}

// 20.10: whatever is done with a namespace, but Bind, all that it tells is the same from its first moment on.
func TestNothingButBind(t *testing.T) {
	t.Parallel()
	for seed := range int64(3000) {
		c := newChance(seed, 3)
		h := newHeap(t, 3, 1<<30, 9)
		object(t, h, null())
		o := of(t, h, c.names()...)
		object(t, h, ref(o))
		for _, name := range c.names() {
			namespace.Bind(h, o, name, c.value())
		}
		before := now(h)
		for range 40 {
			k, v := c.key(), c.value()
			x := pick(c, sets(o, k, v, ref(o)), sets(3, k, v, ref(o)), sets(1, k, v, ref(o)), sets(o, k, v, ref(1)), defines(o, k, c.desc(nil)), defines(o, k, data(v, "we")), deletes(o, k), setProto(o, pick(c, null(), c.ref())), prevent(o))
			if s, err := x.played(h); err != nil && !sameError(err, referenceError()) {
				t.Fatalf("seed %d: %v: %s, %v", seed, x, s, err)
			}
		}
		if after := now(h); !sameShape(after.shapes[o-1], before.shapes[o-1]) || !sameFact(after.facts[o-1], before.facts[o-1]) {
			t.Fatalf("20.10: seed %d: %v became %v", seed, before, after)
		}
	}
}
