package array_test

// 14.3, 14.4: what New and Of refuse, in which order, and what they make.

import (
	"math"
	"slices"
	"strings"
	"testing"

	"cameo/api"
	"cameo/array"
	"cameo/heap"
)

// four is a heap with the objects 1 (ordinary), 2 (a function), 3 (ordinary, of 1), 4 (an array); there is room for so many more.
func four(t *testing.T, room int) *heap.Heap {
	t.Helper()
	h := newHeap(t, 4+room, 0, 1)
	made(t, h, null())
	fn(t, h)
	made(t, h, ref(1))
	listed(t, h, num(1))
	return h
}

// given is what New, or Of, is given.
type given struct {
	of     bool
	room   int
	proto  api.Value
	length int64
	l      []api.Value
}

func (g given) make(h *heap.Heap) (int, error) {
	if g.of {
		return array.Of(h, g.proto, g.l)
	}
	return array.New(h, g.proto, g.length)
}

// fault is one thing that is wrong with it: rank is its place in the order of the promise; where is what it turns.
type fault struct {
	where string
	rank  int
	err   error
	turn  func(g *given)
}

func faults(of bool) []fault {
	l := []fault{{"room", 9, api.ErrFull, func(g *given) { g.room = 0 }}}
	add := func(where string, rank int, err error, turn func(g *given)) {
		l = append(l, fault{where, rank, err, turn})
	}
	for _, v := range broken() {
		add("proto", 1, api.ErrValue, func(g *given) { g.proto = v })
	}
	for _, v := range []api.Value{ref(5), ref(6), ref(65536)} { // 5 is the one that it would be itself
		add("proto", 1, api.ErrRef, func(g *given) { g.proto = v })
	}
	for _, v := range []api.Value{undefined(), no(), yes(), num(0), text("x"), symbol(1)} {
		add("proto", 2, api.ErrValue, func(g *given) { g.proto = v })
	}
	if !of {
		for _, n := range []int64{-1, -2, -4294967296, math.MinInt64} {
			add("length", 3, api.ErrRange, func(g *given) { g.length = n })
		}
		for _, n := range []int64{4294967296, 4294967297, 1 << 33, api.MaxSafe, math.MaxInt64} {
			add("length", 4, rangeError(), func(g *given) { g.length = n })
		}
		return l
	}
	for i, where := range []string{"first", "second", "third"} { // whichever error it is, the first one's comes first
		for _, v := range broken() {
			add(where, 3+i, api.ErrValue, func(g *given) { g.l[i] = v })
		}
		for _, v := range []api.Value{ref(5), ref(6), ref(65536)} {
			add(where, 3+i, api.ErrRef, func(g *given) { g.l[i] = v })
		}
	}
	return l
}

// refused makes a call with faults, which must change nothing.
func refused(t *testing.T, of bool, want error, l ...fault) {
	t.Helper()
	g := given{of, 2, ref(3), 7, []api.Value{num(1), ref(1), text("x")}}
	for _, f := range l {
		f.turn(&g)
	}
	h := four(t, g.room)
	before, values := h.Shapes(), slices.Clone(g.l)
	n, err := g.make(h)
	if n != 0 || !sameError(err, want) {
		t.Errorf("%d, %v, want %v, of %v", n, err, want, g)
	}
	if !sameShapes(h.Shapes(), before) || h.Fuel() != 0 || !slices.EqualFunc(g.l, values, sameValue) {
		t.Errorf("what is refused changes something: %v", h.Shapes())
	}
}

// 14.3, 14.4: each refusal, and of two the one that is named first, wherever it stands.
func TestRefused(t *testing.T) {
	for _, of := range []bool{false, true} {
		l := faults(of)
		for i, f := range l {
			refused(t, of, f.err, f)
			for _, g := range l[:i] {
				if f.where == g.where {
					continue
				}
				first := f
				if g.rank < f.rank {
					first = g
				}
				refused(t, of, first.err, g, f)
			}
		}
	}
}

// Strings that are too long, and such that are just not.
func TestLongStrings(t *testing.T) {
	much := strings.Repeat("x", api.MaxStr+1)
	for _, of := range []bool{false, true} {
		refused(t, of, api.ErrValue, fault{turn: func(g *given) { g.proto = text(much) }})
		refused(t, of, api.ErrValue, fault{turn: func(g *given) { g.room, g.proto = 0, text(much[1:]) }})
	}
	refused(t, true, api.ErrValue, fault{turn: func(g *given) { g.room, g.l[1] = 0, text(much) }})
	h := newHeap(t, 1, 0, 1)
	v := text(much[1:])
	holds(t, h, listed(t, h, v, num(1), v), v, num(1), v)
}

// props is the properties that an array begins with.
func props(length float64, l ...api.Value) []api.Prop {
	out := []api.Prop{{Key: str("length"), Desc: data(num(length), "w")}}
	for i, v := range l {
		out = append(out, api.Prop{Key: at(i), Desc: data(v, "wec")})
	}
	return out
}

// makes holds what is made, and that nothing else has changed, and nothing was spent, against what it must be.
func makes(t *testing.T, g given, want []api.Prop) {
	t.Helper()
	h := four(t, 2)
	before := h.Shapes()
	for n := 5; n <= 6; n++ {
		o, err := g.make(h)
		if o != n || err != nil || h.Fuel() != 0 {
			t.Fatalf("%d, %v, of %v", o, err, g)
		}
		want := api.Shape{Class: api.CArray, Proto: g.proto, Extensible: true, Props: want}
		s, e := h.Shape(o)
		if !sameShape(s, want) || e != api.OK || !sameShape(h.Shapes()[o-1], want) {
			t.Errorf("%v, %v; want %v", s, e, want)
		}
		if c, e := h.Class(o); c != api.CArray || e != api.OK || h.Callable(ref(o)) || h.Constructor(ref(o)) {
			t.Errorf("class %d, %v", c, e)
		}
	}
	if o, err := g.make(h); o != 0 || err != api.ErrFull || h.Len() != 6 {
		t.Errorf("%d, %v", o, err)
	}
	if !sameShapes(before, h.Shapes()[:4]) {
		t.Errorf("the others are %v", h.Shapes()[:4])
	}
}

func protos() []api.Value { return []api.Value{null(), ref(1), ref(2), ref(3), ref(4)} }

// 14.3
func TestNew(t *testing.T) {
	for _, proto := range protos() {
		for _, n := range []int64{0, 1, 2, 3, 65535, 65536, 65537, 1<<31 - 1, 1 << 31, 1<<32 - 2, 1<<32 - 1} {
			makes(t, given{proto: proto, length: n}, props(float64(n)))
		}
	}
}

// 14.4
func TestOf(t *testing.T) {
	for _, l := range [][]api.Value{nil, {}, {num(1)}, {ref(3)}, plain(), {ref(1), ref(2), ref(3), ref(4), ref(1)}, numbers(11), numbers(101), numbers(api.MaxArgs + 1)} {
		for _, proto := range protos() {
			makes(t, given{of: true, proto: proto, l: l}, props(float64(len(l)), l...))
		}
	}
}

// 14.4: no limit is named but those of the heap.
func TestOfMany(t *testing.T) {
	h := newHeap(t, 2, 10, 1)
	o := listed(t, h, numbers(api.MaxObjects+1)...)
	long(t, h, o, api.MaxObjects+1)
	lies(t, h, o, at(api.MaxObjects), data(num(api.MaxObjects+1), "wec"))
	defines(t, h, o, str("length"), api.Desc{Value: num(api.MaxObjects)}, true)
	holds(t, h, o, numbers(api.MaxObjects)...)
	defines(t, h, o, str("length"), api.Desc{Value: num(3)}, true)
	holds(t, h, o, numbers(3)...)
}
