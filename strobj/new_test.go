package strobj_test

// 16.4: what New and Data refuse, in which order, and what they make and tell.

import (
	"math"
	"strings"
	"testing"

	"cameo/api"
	"cameo/args"
	"cameo/array"
	"cameo/call"
	"cameo/heap"
	"cameo/strobj"
	"cameo/typed"
)

// every is a heap with an object of each class that is built so far, and room for so many more: 1 (ordinary), 2 (native), 3 (a String object), 4 (a buffer), 5 (a typed array over it), 6 (an array), 7 and 8 (arguments), 9 (a function), 10 (ordinary, of 3).
func every(t *testing.T, room int) *heap.Heap {
	t.Helper()
	h := newHeap(t, 10+room, 0, 1)
	add := func(_ int, err error) {
		t.Helper()
		if err != nil {
			t.Fatal(err)
		}
	}
	made(t, h, null())
	addNative(t, h, func(*heap.Heap, api.Value, []api.Value) (api.Value, error) { return null(), nil })
	of(t, h, ref(1), "abc")
	add(typed.Buffer(h, null(), 4))
	add(typed.New(h, null(), 4, api.TUint8, 0, 4))
	add(array.New(h, null(), 4))
	add(args.Mapped(h, null(), []api.Value{text("a")}, []string{"a"}, undefined()))
	add(args.Unmapped(h, null(), []api.Value{text("a")}, undefined()))
	add(call.New(h, null(), nil, true))
	made(t, h, ref(3))
	return h
}

// given is what New is given.
type given struct {
	room  int
	proto api.Value
	s     string
}

// fault is one thing that is wrong with it: rank is its place in the order of the promise; where is what it turns.
type fault struct {
	where string
	rank  int
	err   error
	turn  func(g *given)
}

func faults() []fault {
	l := []fault{{"room", 9, api.ErrFull, func(g *given) { g.room = 0 }}}
	add := func(where string, rank int, err error, turn func(g *given)) {
		l = append(l, fault{where, rank, err, turn})
	}
	for _, v := range broken() {
		add("proto", 1, api.ErrValue, func(g *given) { g.proto = v })
	}
	for _, v := range []api.Value{ref(11), ref(12), ref(65536)} { // 11 is the one that it would be itself
		add("proto", 1, api.ErrRef, func(g *given) { g.proto = v })
	}
	for _, v := range []api.Value{undefined(), no(), yes(), num(0), text("x"), symbol(1)} {
		add("proto", 2, api.ErrValue, func(g *given) { g.proto = v })
	}
	for _, s := range noStrings() {
		add("s", 3, api.ErrValue, func(g *given) { g.s = s })
	}
	for _, s := range tooLong() {
		add("s", 3, api.ErrValue, func(g *given) { g.s = s })
	}
	return l
}

// tooLong is strings of more than MaxStr bytes, one byte more, and many.
func tooLong() []string {
	return []string{strings.Repeat("x", api.MaxStr+1), strings.Repeat("\u20ac", api.MaxStr/3+1), strings.Repeat("\U0001f600", api.MaxStr/4) + "x", strings.Repeat("x", 4*api.MaxStr)}
}

// refused makes a call with faults, which must change nothing.
func refused(t *testing.T, want error, l ...fault) {
	t.Helper()
	g := given{2, ref(3), "abc"}
	for _, f := range l {
		f.turn(&g)
	}
	h := every(t, g.room)
	before := now(h)
	if n, err := strobj.New(h, g.proto, g.s); n != 0 || !sameError(err, want) {
		t.Errorf("%d, %v, want %v, of %v", n, err, want, g)
	}
	if !sameMoment(now(h), before) || h.Fuel() != 0 {
		t.Errorf("what is refused changes something: %v", h.Shapes())
	}
}

// Each refusal, and of two the one that is named first.
func TestRefused(t *testing.T) {
	l := faults()
	for i, f := range l {
		refused(t, f.err, f)
		for _, g := range l[:i] {
			if f.where == g.where {
				continue
			}
			first := f
			if g.rank < f.rank {
				first = g
			}
			refused(t, first.err, g, f)
		}
	}
	// All three at once.
	for v, want := range map[api.Value]error{ref(11): api.ErrRef, num(1): api.ErrValue, {}: api.ErrValue} {
		refused(t, want, fault{turn: func(g *given) { *g = given{0, v, "\xff"} }})
	}
}

// makes holds what is made of a string, and that nothing else has changed, and nothing was spent, against what it must be.
func makes(t *testing.T, proto api.Value, s string, long int) {
	t.Helper()
	h := every(t, 2)
	before := now(h)
	name := s[:min(len(s), 20)]
	for n := 11; n <= 12; n++ {
		o, err := strobj.New(h, proto, s)
		if o != n || err != nil || h.Fuel() != 0 {
			t.Fatalf("%d, %v, %d left, of %q", o, err, h.Fuel(), name)
		}
		want := api.Shape{Class: api.CString, Proto: proto, Extensible: true, Props: []api.Prop{{Key: str("length"), Desc: data(num(float64(long)), "")}}}
		shape, e := h.Shape(o)
		if !sameShape(shape, want) || e != api.OK || !sameShape(h.Shapes()[o-1], want) {
			t.Errorf("%v, %v; want %v", shape, e, want)
		}
		if c, e := h.Class(o); c != api.CString || e != api.OK || h.Callable(ref(o)) || h.Constructor(ref(o)) {
			t.Errorf("class %d, %v", c, e)
		}
		if got, e := strobj.Data(h, o); got != s || e != api.OK || h.Fuel() != 0 {
			t.Errorf("Data of %q: %q, %v", name, got[:min(len(got), 20)], e)
		}
	}
	if o, err := strobj.New(h, proto, s); o != 0 || err != api.ErrFull || h.Len() != 12 {
		t.Errorf("%d, %v", o, err)
	}
	after := now(h)
	if !sameMoment(before, moment{after.shapes[:10], after.data[:10], after.errors[:10]}) {
		t.Errorf("the others are %v", after)
	}
}

func TestNew(t *testing.T) {
	for _, s := range words() {
		if !twinValid(s) || twinString(twinUnits(s)) != s {
			t.Fatalf("%q is no string", s)
		}
		for _, proto := range []api.Value{null(), ref(1), ref(2), ref(3), ref(5), ref(10)} {
			makes(t, proto, s, len(twinUnits(s)))
		}
	}
	for _, s := range noStrings() {
		if twinValid(s) {
			t.Fatalf("%q is a string", s)
		}
	}
}

// The strings that have the most bytes: each with as many units as its code points have.
func TestLongest(t *testing.T) {
	for _, c := range []struct {
		s    string
		long int
	}{
		{strings.Repeat("x", api.MaxStr-1), api.MaxStr - 1},
		{strings.Repeat("x", api.MaxStr), api.MaxStr},
		{strings.Repeat("\u00e9", api.MaxStr/2), api.MaxStr / 2},
		{strings.Repeat("\u20ac", api.MaxStr/3) + "x", api.MaxStr/3 + 1},
		{strings.Repeat("\U0001f600", api.MaxStr/4), api.MaxStr / 2},
		{strings.Repeat(high, api.MaxStr/3) + "x", api.MaxStr/3 + 1},
		{strings.Repeat(low, api.MaxStr/3-1) + high + "x", api.MaxStr/3 + 1},
	} {
		if len(c.s) > api.MaxStr || len(c.s) < api.MaxStr-3 {
			t.Fatal(len(c.s))
		}
		makes(t, null(), c.s, c.long)
	}
}

// noObjects is numbers of none.
func noObjects() []int {
	return []int{0, -1, 11, 12, 65536, 65537, math.MinInt, math.MaxInt, 1<<32 + 3}
}

// 16.4: Data of what is no object, and of objects of every other class, an object whose prototype is a String object among them.
func TestNoData(t *testing.T) {
	h := every(t, 1)
	before := h.Shapes()
	for _, o := range noObjects() {
		if s, e := strobj.Data(h, o); s != "" || e != api.ErrRef {
			t.Errorf("Data(%d): %q, %v", o, s, e)
		}
	}
	for _, o := range []int{1, 2, 4, 5, 6, 7, 8, 9, 10} {
		if s, e := strobj.Data(h, o); s != "" || e != api.ErrKind {
			t.Errorf("Data(%d): %q, %v", o, s, e)
		}
	}
	holds(t, h, 3, "abc")
	if !sameShapes(h.Shapes(), before) {
		t.Error("Data changes something")
	}
	empty := newHeap(t, 0, 0, 1)
	if s, e := strobj.Data(empty, 1); s != "" || e != api.ErrRef {
		t.Errorf("%q, %v", s, e)
	}
	if o, err := strobj.New(empty, null(), ""); o != 0 || err != api.ErrFull {
		t.Errorf("%d, %v", o, err)
	}
}
