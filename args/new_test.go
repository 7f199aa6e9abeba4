package args_test

// 13.1: what Mapped and Unmapped refuse, in which order, and what they make.

import (
	"slices"
	"strconv"
	"strings"
	"testing"

	"cameo/api"
	"cameo/args"
	"cameo/heap"
)

// four is a heap with the objects 1 (ordinary), 2 (a function), 3 (ordinary, of 1), 4 (a mapped arguments object); there is room for so many more.
func four(t *testing.T, room int) *heap.Heap {
	t.Helper()
	h := newHeap(t, 4+room, 0, 1)
	made(t, h, null())
	fn(t, h)
	made(t, h, ref(1))
	mapped(t, h, "a", num(1))
	return h
}

// given is what Mapped, or Unmapped, is given; last is callee, or thrower.
type given struct {
	unmapped bool
	room     int
	proto    api.Value
	l        []api.Value
	names    []string
	last     api.Value
}

func (g given) make(h *heap.Heap) (int, error) {
	if g.unmapped {
		return args.Unmapped(h, g.proto, g.l, g.last)
	}
	return args.Mapped(h, g.proto, g.l, g.names, g.last)
}

// fault is one thing that is wrong with it: rank is its place in the order of 13.1; where is what it turns.
type fault struct {
	where string
	rank  int
	e     api.Errno
	turn  func(g *given)
}

func badNames() []string {
	return []string{"\xff", "a\xff", "\xed\xa0\xbd\xed\xb8\x80", "\xc0\x80", "\xf4\x90\x80\x80", "\xe2\x82"}
}

func faults(unmapped bool) []fault {
	l := []fault{{"room", 7, api.ErrFull, func(g *given) { g.room = 0 }}}
	add := func(where string, rank int, e api.Errno, turn func(g *given)) {
		l = append(l, fault{where, rank, e, turn})
	}
	for _, v := range broken() {
		add("proto", 1, api.ErrValue, func(g *given) { g.proto = v })
		add("l", 4, api.ErrValue, func(g *given) { g.l[1] = v })
		add("last", 4, api.ErrValue, func(g *given) { g.last = v })
	}
	for _, v := range []api.Value{ref(5), ref(6), ref(65536)} { // 5 is the one that it would be itself
		add("proto", 1, api.ErrRef, func(g *given) { g.proto = v })
		add("l", 5, api.ErrRef, func(g *given) { g.l[2] = v })
		add("last", 5, api.ErrRef, func(g *given) { g.last = v })
	}
	for _, v := range []api.Value{undefined(), yes(), num(1), text("x"), symbol(1)} {
		add("proto", 2, api.ErrValue, func(g *given) { g.proto = v })
	}
	add("l", 3, api.ErrLong, func(g *given) { g.l = numbers(api.MaxArgs + 1) })
	add("l", 3, api.ErrLong, func(g *given) { g.l = append(numbers(api.MaxArgs), api.Value{}) })
	add("l", 3, api.ErrLong, func(g *given) { g.l = append(numbers(5000), ref(9)) })
	if unmapped {
		for _, v := range append(plain()[1:], ref(1), ref(3), ref(4)) {
			add("last", 6, api.ErrKind, func(g *given) { g.last = v })
		}
		return l
	}
	add("names", 3, api.ErrLong, func(g *given) { g.names = slices.Repeat([]string{"a"}, api.MaxArgs+1) })
	add("names", 3, api.ErrLong, func(g *given) { g.names = slices.Repeat([]string{"\xff"}, 3000) })
	for _, s := range badNames() {
		add("names", 4, api.ErrValue, func(g *given) { g.names[1] = s })
		add("names", 4, api.ErrValue, func(g *given) { g.names[4] = s }) // there is no member for it
	}
	return l
}

// refused makes a call with faults, which must change nothing.
func refused(t *testing.T, unmapped bool, want api.Errno, l ...fault) {
	t.Helper()
	g := given{unmapped, 2, ref(3), []api.Value{num(1), ref(1), text("x")}, []string{"a", "b", "a", "c", "d"}, ref(2)}
	for _, f := range l {
		f.turn(&g)
	}
	h := four(t, g.room)
	before, values, names := h.Shapes(), slices.Clone(g.l), slices.Clone(g.names)
	n, err := g.make(h)
	if n != 0 || err != want {
		t.Errorf("13.1: %d, %v, want %v, of %v", n, err, want, g)
	}
	if !slices.EqualFunc(h.Shapes(), before, sameShape) || h.Fuel() != 0 || !slices.EqualFunc(g.l, values, sameValue) || !slices.Equal(g.names, names) {
		t.Errorf("13.1: what is refused changes something: %v", h.Shapes())
	}
}

// 13.1: each refusal, and of two the one that is named first, wherever it stands.
func TestRefused(t *testing.T) {
	for _, unmapped := range []bool{false, true} {
		l := faults(unmapped)
		for i, f := range l {
			refused(t, unmapped, f.e, f)
			for _, g := range l[:i] {
				if f.where == g.where {
					continue
				}
				first := f
				if g.rank < f.rank {
					first = g
				}
				refused(t, unmapped, first.e, g, f)
			}
		}
	}
}

// 13.1: within one list, too, what is not well formed comes ahead of objects that are not there, in whatever order they stand.
func TestRefusedWithin(t *testing.T) {
	for _, unmapped := range []bool{false, true} {
		for _, v := range broken() {
			refused(t, unmapped, api.ErrValue, fault{turn: func(g *given) { g.l[0], g.l[2] = ref(9), v }})
			refused(t, unmapped, api.ErrValue, fault{turn: func(g *given) { g.l[2], g.l[0] = ref(9), v }})
		}
	}
}

// 13.1: strings that are too long, and such that are just not.
func TestLongStrings(t *testing.T) {
	much := long()
	for _, unmapped := range []bool{false, true} {
		refused(t, unmapped, api.ErrValue, fault{turn: func(g *given) { g.proto = text(much) }})
		refused(t, unmapped, api.ErrValue, fault{turn: func(g *given) { g.room, g.l[1] = 0, text(much) }})
		refused(t, unmapped, api.ErrValue, fault{turn: func(g *given) { g.l[0], g.last = ref(9), text(much) }})
	}
	refused(t, false, api.ErrValue, fault{turn: func(g *given) { g.l[0], g.names[4] = ref(9), much }})
	h := newHeap(t, 1, 0, 1)
	name, v := much[1:], text(strings.Repeat("y", api.MaxStr))
	o, err := args.Mapped(h, null(), []api.Value{v}, []string{name}, v)
	if o != 1 || err != nil {
		t.Fatalf("13.1: %d, %v", o, err)
	}
	has(t, h, o, name, v)
	tied(t, h, o, 0, name)
}

// props is the properties that an arguments object begins with.
func props(l []api.Value, callee api.Desc) []api.Prop {
	var out []api.Prop
	for i, v := range l {
		out = append(out, api.Prop{Key: str(strconv.Itoa(i)), Desc: data(v, "wec")})
	}
	return append(out, api.Prop{Key: str("length"), Desc: data(num(float64(len(l))), "wc")}, api.Prop{Key: str("callee"), Desc: callee})
}

// makes holds what is made, and that nothing else has changed, and nothing was spent, against what 13.1 says.
func makes(t *testing.T, g given, callee api.Desc) {
	t.Helper()
	h := four(t, 2)
	before := now(h)
	for n := 5; n <= 6; n++ {
		o, err := g.make(h)
		if o != n || err != nil || h.Fuel() != 0 {
			t.Fatalf("13.1: %d, %v, of %v", o, err, g)
		}
		want := api.Shape{Class: api.CArguments, Proto: g.proto, Extensible: true, Props: props(g.l, callee)}
		s, e := h.Shape(o)
		if !sameShape(s, want) || e != api.OK || !sameShape(h.Shapes()[o-1], want) {
			t.Errorf("13.1: %v, %v; want %v", s, e, want)
		}
		if c, e := h.Class(o); c != api.CArguments || e != api.OK || h.Callable(ref(o)) || h.Constructor(ref(o)) {
			t.Errorf("13.1: class %d, %v", c, e)
		}
	}
	if o, err := g.make(h); o != 0 || err != api.ErrFull || h.Len() != 6 {
		t.Errorf("13.1: %d, %v", o, err)
	}
	after := now(h)
	if !sameMoment(before, moment{after.shapes[:4], after.slots[:4]}) {
		t.Errorf("13.1: the others are %v", after)
	}
	h.Refuel(1)
	var want []api.Key
	for _, p := range props(g.l, callee) {
		want = append(want, p.Key)
	}
	if keys, err := h.OwnPropertyKeys(5); !slices.Equal(keys, want) || err != nil {
		t.Fatalf("13.1: %v, %v", keys, err)
	}
}

func lists() [][]api.Value {
	return [][]api.Value{nil, {}, {num(1)}, {ref(3)}, plain(), {ref(1), ref(2), ref(3), ref(4), ref(1)}, numbers(11), numbers(101), numbers(api.MaxArgs)}
}

// 13.1
func TestMapped(t *testing.T) {
	rows := [][]string{nil, {}, {"a"}, {"a", "a"}, {"length", "callee", "0", ""}, {"b", "a", "\xed\xa0\xbd", "\x00"}, slices.Repeat([]string{"x", "y", "z", "x"}, api.MaxArgs/4)}
	for _, l := range lists() {
		for _, names := range rows {
			makes(t, given{proto: null(), l: l, names: names, last: num(nan)}, data(num(nan), "wc"))
		}
		for _, callee := range append(plain(), ref(1), ref(2), ref(4)) {
			makes(t, given{proto: ref(4), l: l, names: rows[3], last: callee}, data(callee, "wc"))
		}
	}
}

// 13.1
func TestUnmapped(t *testing.T) {
	for _, l := range lists() {
		for _, proto := range []api.Value{null(), ref(1), ref(2), ref(3), ref(4)} {
			for _, thrower := range []api.Value{undefined(), ref(2)} {
				makes(t, given{unmapped: true, proto: proto, l: l, last: thrower}, accessor(thrower, thrower, ""))
			}
		}
	}
}

// 13.1: who asks an unmapped one for its callee, or gives it one, calls the thrower with the receiver; it can be neither taken away nor turned.
func TestThrower(t *testing.T) {
	h := newHeap(t, 3, 100, 9)
	wrong := &api.Thrown{Kind: api.XType}
	var seen [][]api.Value
	f := addNative(t, h, func(_ *heap.Heap, this api.Value, given []api.Value) (api.Value, error) {
		seen = append(seen, append([]api.Value{this}, given...))
		return api.Value{}, wrong
	})
	o, err := args.Unmapped(h, null(), numbers(2), f)
	if err != nil {
		t.Fatal(err)
	}
	if v, err := h.Get(o, str("callee"), num(5)); v != (api.Value{}) || err != error(wrong) {
		t.Errorf("13.1: %v, %v", v, err)
	}
	if ok, err := h.Set(o, str("callee"), num(6), ref(o)); ok || err != error(wrong) {
		t.Errorf("13.1: %v, %v", ok, err)
	}
	if len(seen) != 2 || !slices.Equal(seen[0], []api.Value{num(5)}) || !slices.Equal(seen[1], []api.Value{ref(o), num(6)}) {
		t.Errorf("13.1: %v", seen)
	}
	for _, d := range []api.Desc{{Value: num(1)}, {Enumerable: api.Yes}, {Configurable: api.Yes}, {Get: undefined()}, {Set: undefined()}, {Writable: api.No}} {
		yields(t, h, "13.1", 1, false, func() (bool, error) { return h.DefineOwnProperty(o, str("callee"), d) })
	}
	yields(t, h, "13.1", 1, false, func() (bool, error) { return h.Delete(o, str("callee")) })
	yields(t, h, "13.1", 1, true, func() (bool, error) { return h.Delete(o, str("length")) })
	yields(t, h, "13.1", 3, true, func() (bool, error) { return h.Set(o, str("0"), num(6), ref(o)) })
	tells(t, h, o, str("0"), data(num(6), "wec"))
}
