package bound_test

// 18.3: what is refused ahead of anything being done, and which refusal comes first.

import (
	"slices"
	"testing"

	"cameo/api"
	"cameo/bound"
	"cameo/heap"
)

// guarded is a heap with objects whose methods must not be asked: 1 can be called, 2 is ordinary, 3 can be constructed; 4 is bound to 3.
func guarded(t *testing.T, fuel, depth int) *heap.Heap {
	t.Helper()
	h := newHeap(t, 5, 0, depth)
	s := stage{t, h, &diary{}}
	s.caller(null(), "f", null(), nil)
	s.seer(null())
	s.builder(null(), "c", ref(2), nil)
	if depth > 1 {
		s.bound(3, null(), num(1))
	} else {
		made(t, h, null())
	}
	s.d.meet = func(_ int, line string) error {
		t.Errorf("asked: %s", line)
		return api.ErrFull
	}
	h.Refuel(fuel)
	return h
}

// fault is one thing that is wrong with an act: of two the one of the lower rank is told; where is what it turns (two faults of one such cannot be told apart).
type fault struct {
	where string
	rank  int
	err   api.Errno
	turn  func(x *act)
}

// valueFaults is what may be wrong with a value: both of these are Check's, so that they are of one rank.
func valueFaults(where string, rank int, turn func(x *act, v api.Value)) []fault {
	var l []fault
	for _, v := range broken() {
		l = append(l, fault{where, rank, api.ErrValue, func(x *act) { turn(x, v) }})
	}
	for _, v := range append(strangers(), ref(6)) {
		l = append(l, fault{where, rank, api.ErrRef, func(x *act) { turn(x, v) }})
	}
	return l
}

func missing() []fault {
	var l []fault
	for _, o := range append(nobody(), 6) {
		l = append(l, fault{"f", 1, api.ErrRef, func(x *act) { x.f = o }})
	}
	return l
}

func bindFaults() []fault {
	l := append(missing(), fault{"f", 9, api.ErrKind, func(x *act) { x.f = 2 }})
	l = append(l, valueFaults("this", 2, func(x *act, v api.Value) { x.this = v })...)
	// Of the args the first one counts: they are laid from the front, in this order.
	for i := range 3 {
		l = append(l, valueFaults("arg", 3+i, func(x *act, v api.Value) { x.args[i] = v })...)
	}
	for _, n := range []int{1022, 1023, 3000} {
		l = append(l, fault{"long", 8, api.ErrLong, func(x *act) { x.args = append(x.args, values(0, n)...) }})
	}
	// One that is wrong far behind is told ahead of there being too many.
	last := func(x *act, v api.Value) { x.args = append(append(x.args, values(0, 1500)...), v) }
	return append(l, valueFaults("long", 7, last)...)
}

func faults(name string) []fault {
	switch name {
	case "Bind":
		return bindFaults()
	case "Target":
		return append(missing(), fault{"f", 2, api.ErrKind, func(x *act) { x.f = 1 }}, fault{"f", 2, api.ErrKind, func(x *act) { x.f = 2 }}, fault{"f", 2, api.ErrKind, func(x *act) { x.f = 3 }})
	}
	v := valueFaults("v", 1, func(x *act, v api.Value) { x.v = v })
	return append(v, valueFaults("c", 2, func(x *act, v api.Value) { x.c = v })...)
}

// refused plays an act with faults, which must change nothing.
func refused(t *testing.T, h *heap.Heap, name string, l ...fault) {
	t.Helper()
	x := act{name: name, f: 1, this: ref(2), args: []api.Value{num(1), ref(3), text("a")}, v: ref(2), c: ref(3)}
	for _, f := range l {
		f.turn(&x)
	}
	want := slices.MinFunc(l, func(a, b fault) int { return a.rank - b.rank }).err
	before, fuel := h.Shapes(), h.Fuel()
	if s, err := x.played(h); s != "" || err != want {
		t.Errorf("18.3: %s: %s, %v, want %v", name, s, err, want)
		for _, f := range l {
			t.Logf("%s %d %v", f.where, f.rank, f.err)
		}
	}
	if h.Fuel() != fuel || !sameShapes(h.Shapes(), before) {
		t.Errorf("18.3: %s: what is refused changes something: %v", name, h.Shapes())
	}
}

// Each refusal, and of two the one that is named first.
func TestRefused(t *testing.T) {
	for _, name := range faces() {
		h, l := guarded(t, 10, 5), faults(name)
		for i, f := range l {
			refused(t, h, name, f)
			for _, g := range l[:i] {
				if g.where != f.where || g.where == "arg" && g.rank != f.rank {
					refused(t, h, name, g, f)
				}
			}
		}
	}
}

// Three at once, where the act has so many.
func TestRefusedThrice(t *testing.T) {
	h := guarded(t, 10, 5)
	// One fault of each sort, place and rank will do.
	l := slices.CompactFunc(bindFaults(), func(f, g fault) bool { return f.where == g.where && f.rank == g.rank && f.err == g.err })
	apart := func(f, g fault) bool { return f.where != g.where || f.where == "arg" && f.rank != g.rank }
	for i, f := range l {
		for j, g := range l[:i] {
			for _, k := range l[:j] {
				if apart(f, g) && apart(f, k) && apart(g, k) {
					refused(t, h, "Bind", k, g, f)
				}
			}
		}
	}
}

// Refusals cost nothing: they come without any fuel, without room, and as deep as one may be.
func TestRefusedWithoutFuel(t *testing.T) {
	for _, name := range faces() {
		h := guarded(t, 0, 5)
		made(t, h, null()) // there is no room any more
		for _, f := range faults(name) {
			refused(t, h, name, f)
		}
	}
	deep := guarded(t, 50, 1)
	f := addNative(t, deep, func(api.Value, []api.Value) (api.Value, error) {
		for _, name := range faces() {
			for _, f := range faults(name) {
				refused(t, deep, name, f)
			}
		}
		return null(), nil
	})
	if _, err := deep.Call(f, null(), nil); err != nil {
		t.Error(err)
	}
}

// On an empty heap there is nobody.
func TestEmptyHeap(t *testing.T) {
	h := newHeap(t, 0, 0, 1)
	for _, v := range []api.Value{ref(1), ref(65536)} {
		isInstance(v, null()).is(t, h, 0, nil, api.ErrRef)
		isInstance(null(), v).is(t, h, 0, nil, api.ErrRef)
		asInstance(v, null()).is(t, h, 0, nil, api.ErrRef)
		asInstance(null(), v).is(t, h, 0, nil, api.ErrRef)
	}
	for _, f := range append(nobody(), 1) {
		binds(f, null()).is(t, h, 0, nil, api.ErrRef)
		targetOf(f).is(t, h, 0, nil, api.ErrRef)
	}
	for _, v := range plain() {
		isInstance(v, v).is(t, h, 0, nil, typeError())
		asInstance(v, v).is(t, h, 0, false, nil)
	}
}

// As many args as there may be are no fault.
func TestMostArgs(t *testing.T) {
	h := newHeap(t, 9, 100, 9)
	f := fn(t, h)
	for _, n := range []int{0, 1, 1023, 1024} {
		b, err := bound.Bind(h, f, null(), values(0, n))
		if err != nil {
			t.Fatal(n, err)
		}
		targetOf(b).is(t, h, 0, binding{f, null(), values(0, n)}, nil)
	}
	binds(f, null(), values(0, 1025)...).is(t, h, 0, nil, api.ErrLong)
}

// An error is told as it is, not as one that holds none.
func TestNoErrorIsNil(t *testing.T) {
	h := newHeap(t, 9, 100, 9)
	f := class(t, h)
	lay(t, h, f, has("prototype", ref(f)))
	for _, x := range []act{binds(f, null()), targetOf(2), isInstance(ref(f), ref(f)), isInstance(ref(2), ref(2)), asInstance(ref(f), ref(f)), asInstance(ref(2), num(1)), calls(2, null()), constructs(2, 2)} {
		if _, err := x.played(h); err != nil {
			t.Errorf("%s: %v", x.name, err)
		}
	}
}
