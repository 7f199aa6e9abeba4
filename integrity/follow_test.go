package integrity_test

// 21.6, W2 to W4: what follows, over objects of every class, programs and acts drawn at random, behind each act and within each function that is called.

import (
	"slices"
	"testing"

	"cameo/api"
	"cameo/heap"
	"cameo/integrity"
	"cameo/invariant"
	"cameo/ordinary"
)

// pledge is what was answered of an object: that it is frozen, or sealed.
type pledge struct {
	o      int
	frozen bool
}

// watch is a heap, what its objects told when they were fixed, and its moments so far.
type watch struct {
	t       *testing.T
	h       *heap.Heap
	pledges map[pledge]told
	moments [][]api.Shape
	looks   int // at objects that were fixed
	lists   int // of Harden
}

// reading is the package, with what it answers written down.
func (w *watch) reading() reading {
	by := byPackage()
	by.freeze = func(h *heap.Heap, o int) (bool, error) {
		ok, err := integrity.Freeze(h, o)
		w.pledge(h, pledge{o, true}, ok)
		return ok, err
	}
	by.seal = func(h *heap.Heap, o int) (bool, error) {
		ok, err := integrity.Seal(h, o)
		w.pledge(h, pledge{o, false}, ok)
		return ok, err
	}
	by.fix = func(h *heap.Heap, v api.Value, level int) (api.Value, error) {
		x, err := integrity.Fix(h, v, level)
		w.pledge(h, pledge{x.Id, level == api.LFrozen}, x.Kind == api.KRef && level != api.LShut)
		return x, err
	}
	by.harden = func(h *heap.Heap, v api.Value) ([]int, error) {
		l, err := integrity.Harden(h, v)
		for _, o := range l {
			w.pledge(h, pledge{o, true}, true)
			w.leads(h, o, l)
		}
		if len(l) > 1 {
			w.lists++
		}
		return l, err
	}
	return by
}

// free tells whether nothing follows of an object: a proxy tells what its traps do, and elements are never fixed.
func free(h *heap.Heap, o int) bool {
	c, _ := h.Class(o)
	return c == api.CProxy || c == api.CTyped
}

// seen is what an object tells, unless there is no room to ask it. (None of these runs a program.)
func seen(h *heap.Heap, o int) (told, bool) {
	x := tells(h, o)
	return x, !slices.Contains(x.errs, error(api.ErrDepth))
}

func (w *watch) pledge(h *heap.Heap, p pledge, ok bool) {
	if !ok || free(h, p.o) {
		return
	}
	x, ok := seen(h, p.o)
	if _, was := w.pledges[p]; !was && ok {
		w.pledges[p] = x
	}
}

// leads holds that what an object of a list of Harden leads to is in it.
func (w *watch) leads(h *heap.Heap, o int, l []int) {
	if free(h, o) {
		return
	}
	s, _ := h.Shape(o)
	for _, p := range append(s.Props, api.Prop{Desc: api.Desc{Value: s.Proto}}) {
		for _, v := range []api.Value{p.Desc.Value, p.Desc.Get, p.Desc.Set} {
			if v.Kind == api.KRef && !slices.Contains(l, v.Id) {
				w.t.Fatalf("21.6: %v is not in %v, but %d leads there", v, l, o)
			}
		}
	}
}

// look holds this moment against what always holds, against all earlier ones, and against what was answered.
func (w *watch) look() {
	if w.h == nil {
		return // it is being built
	}
	shapes := w.h.Shapes()
	if at := ordinary.Sound(shapes); at != -1 {
		w.t.Fatalf("W2: %d is not sound: %v", at+1, shapes)
	}
	for _, before := range w.moments {
		if o, rule := invariant.Broken(before, shapes); rule != 0 {
			w.t.Fatalf("W3: %d breaks the rule %d: %v became %v", o, rule, before, shapes)
		}
	}
	w.moments = append(w.moments, shapes)
	for p, before := range w.pledges {
		after, ok := seen(w.h, p.o)
		if !ok {
			continue
		}
		w.looks++
		w.holds(p, before, after, shapes[p.o-1])
	}
}

func (w *watch) holds(p pledge, before, after told, s api.Shape) {
	shut := !s.Extensible && invariant.Sealed(s)
	for _, d := range after.descs {
		shut = shut && d.Configurable == api.No && (!p.frozen || d.Writable != api.Yes)
	}
	same := sameTold(before, after)
	if !p.frozen { // its values may be others
		same = sameValue(before.proto, after.proto) && slices.Equal(before.keys, after.keys)
	}
	if !shut || !same || p.frozen && !invariant.Frozen(s) {
		w.t.Fatalf("21.6: %v told %v, and now %v: %v", p, before, after, s)
	}
	fuel := w.h.Fuel()
	w.h.Refuel(1 << 20)
	defer w.h.Refuel(fuel)
	is := integrity.IsSealed
	if p.frozen {
		is = integrity.IsFrozen
	}
	if ok, err := is(w.h, p.o); !ok || err != nil {
		w.t.Fatalf("21.6: %v: %v, %v", p, ok, err)
	}
	if ok, err := integrity.IsSealed(w.h, p.o); !ok || err != nil {
		w.t.Fatalf("21.6: %v is not sealed: %v, %v", p, ok, err)
	}
	if free, err := w.h.IsExtensible(p.o); free || err != nil {
		w.t.Fatalf("21.6: %v is extensible: %v, %v", p, free, err)
	}
}

func TestWhatFollows(t *testing.T) {
	t.Parallel()
	within, looks, lists := 0, 0, 0
	for seed := range int64(1200) {
		w := &watch{t: t, pledges: map[pledge]told{}}
		by := w.reading()
		h, c := build(t, seed, 12, by, func() { within++; w.look() })
		w.h = h
		w.look()
		for i := range 14 {
			h.Refuel(200)
			do(h, c, by)
			if i%2 == 0 {
				c.fixes().playedBy(h, by)
			}
			w.look()
		}
		looks, lists = looks+w.looks, lists+w.lists
	}
	if within < 1000 || looks < 50000 || lists < 200 {
		t.Errorf("functions looked %d times; %d looks at fixed objects, %d lists", within, looks, lists)
	}
}

// Where Seal or Freeze ends early, whatever for, an object is not extensible from the first step on, and what has been gone through is a beginning of its keys (21.6, W4).
func TestBeginnings(t *testing.T) {
	t.Parallel()
	early := 0
	for seed := range int64(1500) {
		h, c := build(t, seed, 12, byPackage(), func() {})
		o := 1 + c.Intn(last-4)
		frozen := c.Intn(2) == 0
		x := seal(o)
		if frozen {
			x = freeze(o)
		}
		if free(h, o) {
			continue
		}
		before := tells(h, o)
		was := shapeOf(t, h, o).Extensible
		h.Refuel(c.Intn(2 + 2*len(before.keys)))
		started := h.Fuel() > 0
		if _, err := x.played(h); err == nil {
			continue
		}
		early++
		if s := shapeOf(t, h, o); s.Extensible != (was && !started) {
			t.Fatalf("21.6: seed %d: %v: %v", seed, x, s)
		}
		after, whole := tells(h, o), before.fixedTo(frozen)
		n := 0
		for n < len(after.keys) && sameDesc(after.descs[n], whole.descs[n]) {
			n++
		}
		if !slices.Equal(after.keys, before.keys) || !slices.EqualFunc(after.descs[n:], before.descs[n:], sameDesc) {
			t.Fatalf("21.6: seed %d: %v told %v, and now %v", seed, x, before, after)
		}
	}
	if early < 400 {
		t.Errorf("%d ended early", early)
	}
}

// What Freeze has answered true of is frozen through whatever is tried with it, at random; an object is as frozen by Harden, and by Fix.
func TestFrozenForEver(t *testing.T) {
	t.Parallel()
	for seed := range int64(600) {
		h, c := build(t, seed, 12, byPackage(), func() {})
		o := 1 + c.Intn(last-4)
		h.Refuel(1 << 20)
		var err error
		switch c.Intn(3) {
		case 0:
			_, err = integrity.Freeze(h, o)
		case 1:
			_, err = integrity.Fix(h, ref(o), api.LFrozen)
		case 2:
			_, err = integrity.Harden(h, ref(o))
		}
		if err != nil || free(h, o) {
			continue
		}
		before := tells(h, o)
		for range 60 {
			h.Refuel(300)
			x := c.method()
			x.o = o
			if x.name == "Call" {
				continue
			}
			x.entered(h)
			do(h, c, byPackage())
		}
		if after := tells(h, o); !sameTold(before, after) {
			t.Fatalf("W4: seed %d: %d told %v, and now %v", seed, o, before, after)
		}
	}
}
