package ordinary_test

// New and Chain.

import (
	"math"
	"slices"
	"strings"
	"testing"

	"cameo/api"
	"cameo/desc"
	"cameo/heap"
	"cameo/ordinary"
)

// three is a heap with the objects 1 (ordinary), 2 (a function), 3 (ordinary, of 1); there is room for so many more.
func three(t *testing.T, room int) *heap.Heap {
	t.Helper()
	h := newHeap(t, 3+room, 0, 1)
	made(t, h, null())
	addFunction(t, h, nil)
	made(t, h, ref(1))
	return h
}

// given is what New is given.
type given struct {
	room  int
	proto api.Value
	props []api.Prop
}

// fault is one thing that is wrong with it: rank is its place in the order of 9.11; where is what it turns.
type fault struct {
	where string
	rank  int
	e     api.Errno
	turn  func(g *given)
}

func broken() []api.Value {
	return []api.Value{
		{Kind: 8}, {Kind: -1}, {Num: 1}, {Id: 1}, {Kind: api.KUndefined, Num: 1}, {Kind: api.KNull, Id: 3}, {Kind: api.KNull, Num: math.Copysign(0, -1)}, {Kind: api.KBool, Str: "a"},
		{Kind: api.KStr, Id: 1}, {Kind: api.KStr, Str: "\xff"}, {Kind: api.KSym}, {Kind: api.KSym, Id: 65537},
		{Kind: api.KRef}, {Kind: api.KRef, Id: -1}, {Kind: api.KRef, Id: 65537}, {Kind: api.KRef, Id: math.MinInt}, {Kind: api.KRef, Id: 1, Str: "a"}, {Kind: api.KRef, Id: 1, Bool: true},
	}
}

// allBroken and allBrokenKeys have the long ones, too, which take their time.
func allBroken() []api.Value { return append(broken(), text(strings.Repeat("x", api.MaxStr+1))) }

func allBrokenKeys() []api.Key {
	return append(brokenKeys(), str(strings.Repeat("x", api.MaxStr+1)))
}

func brokenKeys() []api.Key {
	return []api.Key{str("\xff"), str("\xed\xa0\xbd\xed\xb8\x80"), {Str: "a", Sym: 1}, sym(-1), sym(65537)}
}

func faults() []fault {
	l := []fault{{"room", 6, api.ErrFull, func(g *given) { g.room = 0 }}}
	proto := func(rank int, e api.Errno, v api.Value) {
		l = append(l, fault{"proto", rank, e, func(g *given) { g.proto = v }})
	}
	for _, v := range append(broken(), api.Value{}) {
		proto(1, api.ErrValue, v)
	}
	proto(1, api.ErrRef, ref(4)) // the one that it would be itself
	proto(1, api.ErrRef, ref(65536))
	for _, v := range []api.Value{undefined(), num(1), text("x"), {Kind: api.KBool}, {Kind: api.KSym, Id: 1}} {
		proto(2, api.ErrValue, v)
	}
	for _, k := range brokenKeys() {
		l = append(l, fault{"key", 3, api.ErrValue, func(g *given) { g.props[1].Key = k }})
	}
	for i, where := range []string{"first", "second"} {
		describe := func(rank int, e api.Errno, d api.Desc) {
			l = append(l, fault{where, rank, e, func(g *given) { g.props[i].Desc = d }})
		}
		for _, v := range broken() {
			describe(3, api.ErrValue, api.Desc{Value: v})
			describe(3, api.ErrValue, api.Desc{Get: v})
			describe(3, api.ErrValue, api.Desc{Set: v})
		}
		describe(3, api.ErrValue, api.Desc{Writable: 3})
		describe(3, api.ErrValue, api.Desc{Enumerable: -1})
		describe(3, api.ErrValue, api.Desc{Configurable: 3})
		describe(3, api.ErrValue, api.Desc{Get: num(1)})
		describe(3, api.ErrValue, api.Desc{Set: null()})
		describe(3, api.ErrValue, api.Desc{Value: num(1), Get: ref(2)})
		describe(3, api.ErrValue, api.Desc{Writable: api.No, Set: undefined()})
		describe(3, api.ErrValue, api.Desc{Value: ref(9), Set: ref(1)})
		describe(4, api.ErrRef, api.Desc{Value: ref(4)})
		describe(4, api.ErrRef, api.Desc{Value: ref(65536), Writable: api.Yes})
		describe(4, api.ErrRef, api.Desc{Get: ref(4)})
		describe(4, api.ErrRef, api.Desc{Get: ref(1), Set: ref(5)})
		describe(5, api.ErrKind, api.Desc{Get: ref(1)})
		describe(5, api.ErrKind, api.Desc{Get: ref(2), Set: ref(3)})
		describe(5, api.ErrKind, api.Desc{Set: ref(1), Get: undefined()})
	}
	return l
}

// refused makes a call with faults, which must change nothing.
func refused(t *testing.T, want api.Errno, l ...fault) {
	t.Helper()
	g := given{2, ref(3), []api.Prop{{Key: str("a"), Desc: data(num(1), "")}, {Key: str("b"), Desc: data(num(2), "")}, {Key: sym(1)}}}
	for _, f := range l {
		f.turn(&g)
	}
	h := three(t, g.room)
	before, props := h.Shapes(), slices.Clone(g.props)
	n, err := ordinary.New(h, g.proto, g.props)
	if n != 0 || err != want {
		t.Errorf("9.11: %d, %v, want %v", n, err, want)
	}
	if !sameShapes(h.Shapes(), before) || h.Fuel() != 0 || !slices.Equal(g.props, props) {
		t.Errorf("9.11: what is refused changes something: %v", h.Shapes())
	}
}

// 9.11: each refusal, and of two the one that is named first, wherever in the list it stands.
func TestNewRefused(t *testing.T) {
	l := faults()
	for i, f := range l {
		refused(t, f.e, f)
		for _, g := range l[:i] {
			if f.where == g.where {
				continue
			}
			first := f
			if g.rank < f.rank {
				first = g
			}
			refused(t, first.e, g, f)
		}
	}
}

// 9.11: strings that are too long.
func TestNewRefusesLongStrings(t *testing.T) {
	long := strings.Repeat("x", api.MaxStr+1)
	refused(t, api.ErrValue, fault{turn: func(g *given) { g.proto = text(long) }})
	refused(t, api.ErrValue, fault{turn: func(g *given) { g.props[2].Key = str(long) }})
	refused(t, api.ErrValue, fault{turn: func(g *given) { g.props[2].Desc.Value = text(long) }})
	refused(t, api.ErrValue, fault{turn: func(g *given) { g.room, g.props[2].Key, g.props[1].Desc = 0, str(long), api.Desc{Get: ref(1)} }})
}

// 9.11: objects with no, one and many properties, with each prototype; it costs nothing, and needs no depth.
func TestNew(t *testing.T) {
	lists := [][]api.Prop{
		nil, {},
		{{Key: str("a"), Desc: data(num(1), "wec")}},
		{{Key: str("")}, {Key: str("1"), Desc: api.Desc{Value: ref(3)}}, {Key: sym(65536), Desc: api.Desc{Get: ref(2)}}, {Key: str("0"), Desc: api.Desc{Set: ref(2), Get: undefined(), Configurable: api.Yes}}},
		{{Key: str("a"), Desc: api.Desc{Writable: api.Yes}}, {Key: str("b"), Desc: api.Desc{Enumerable: api.Yes}}, {Key: str("a"), Desc: api.Desc{Value: num(3)}}},                  // once more
		{{Key: str("a"), Desc: data(num(1), "")}, {Key: str("a"), Desc: api.Desc{Value: num(2)}}, {Key: str("b")}, {Key: str("a"), Desc: api.Desc{Get: ref(2)}}},                    // which may not be
		{{Key: str("a"), Desc: data(num(1), "c")}, {Key: str("b")}, {Key: str("a"), Desc: api.Desc{Set: ref(2)}}, {Key: str("a"), Desc: api.Desc{Value: text("x")}}},                // back and forth
		{{Key: str("long"), Desc: api.Desc{Value: text(strings.Repeat("x", api.MaxStr))}}, {Key: str(strings.Repeat("y", api.MaxStr)), Desc: api.Desc{Value: num(math.Inf(-1))}}},   // edges
		{{Key: str("nought"), Desc: data(num(0), "")}, {Key: str("nought"), Desc: api.Desc{Value: num(math.Copysign(0, -1))}}, {Key: str("\xed\xa0\xbd"), Desc: data(null(), "w")}}, // -0 is another one
	}
	for _, proto := range []api.Value{null(), ref(1), ref(2), ref(3)} {
		for _, props := range lists {
			news(t, proto, props)
		}
	}
}

func news(t *testing.T, proto api.Value, props []api.Prop) {
	t.Helper()
	h := three(t, 2)
	want, copied := h.Shapes(), slices.Clone(props)
	n, err := ordinary.New(h, proto, props)
	want = append(want, api.Shape{Class: api.COrdinary, Proto: proto, Extensible: true, Props: defined(t, props)})
	if n != 4 || err != nil || h.Fuel() != 0 || !sameShapes(h.Shapes(), want) {
		t.Errorf("9.11: %d, %v, %v; want %v", n, err, h.Shapes(), want)
	}
	if !slices.Equal(props, copied) {
		t.Errorf("R4: %v", props)
	}
	// The next one has the next number.
	if n, err := ordinary.New(h, ref(4), props); n != 5 || err != nil {
		t.Errorf("9.11: %d, %v", n, err)
	}
	if n, err := ordinary.New(h, ref(5), props); n != 0 || err != api.ErrFull {
		t.Errorf("9.11: %d, %v", n, err)
	}
}

// defined is a list of properties, one defined behind the other.
func defined(t *testing.T, props []api.Prop) []api.Prop {
	t.Helper()
	var l []api.Prop
	for _, p := range props {
		at := slices.IndexFunc(l, func(x api.Prop) bool { return x.Key == p.Key })
		if at < 0 {
			at, l = len(l), append(l, api.Prop{Key: p.Key})
		}
		next, ok, e := desc.Apply(true, l[at].Desc, p.Desc)
		if e != api.OK {
			t.Fatal(e)
		}
		if ok {
			l[at].Desc = next
		}
	}
	return l
}

// 9.11: an object that New has made is one as any other.
func TestNewIsOrdinary(t *testing.T) {
	h := newHeap(t, 3, 100, 9)
	p, _ := ordinary.New(h, null(), []api.Prop{{Key: str("a"), Desc: data(num(1), "wec")}, {Key: str("b"), Desc: data(num(2), "")}})
	o, _ := ordinary.New(h, ref(p), nil)
	yields(t, h, "get", 2, num(1), func() (api.Value, error) { return h.Get(o, str("a"), ref(o)) })
	yields(t, h, "set", 4, true, func() (bool, error) { return h.Set(o, str("a"), num(3), ref(o)) })
	yields(t, h, "set", 2, false, func() (bool, error) { return h.Set(o, str("b"), num(3), ref(o)) })
	yields(t, h, "a round", 1, false, func() (bool, error) { return h.SetPrototypeOf(p, ref(o)) })
	yields(t, h, "delete", 1, false, func() (bool, error) { return h.Delete(p, str("b")) })
	if c, e := h.Class(o); c != api.COrdinary || e != api.OK || h.Callable(ref(o)) || h.Constructor(ref(o)) {
		t.Errorf("%d, %v", c, e)
	}
}

func chained(t *testing.T, h *heap.Heap, o int, want ...int) {
	t.Helper()
	fuel := h.Fuel()
	l, e := ordinary.Chain(h, o)
	if !slices.Equal(l, want) || e != api.OK || h.Fuel() != fuel {
		t.Errorf("9.11: Chain(%d): %v, %v, want %v", o, l, e, want)
	}
}

// 9.11
func TestChain(t *testing.T) {
	h := newHeap(t, 9, 100, 1)
	for _, p := range []api.Value{null(), ref(1), ref(2), ref(1)} {
		made(t, h, p)
	}
	f := addFunction(t, h, nil)
	proxy := addProxy(t, h, ref(3))
	made(t, h, ref(proxy))
	made(t, h, ref(7))
	chained(t, h, 1)
	chained(t, h, 2, 1)
	chained(t, h, 3, 2, 1)
	chained(t, h, 4, 1)
	chained(t, h, f)
	chained(t, h, 7, proxy)
	chained(t, h, 8, 7, proxy)
	h.SetPrototypeOf(1, ref(8)) // round through the proxy, where it ends
	chained(t, h, 3, 2, 1, 8, 7, proxy)
	chained(t, h, 7, proxy)
	h.SetPrototypeOf(2, null())
	h.SetPrototypeOf(f, ref(3))
	chained(t, h, f, 3, 2)
	h.Refuel(0)
	chained(t, h, f, 3, 2)
	for _, o := range []int{0, -1, 9, 65536, 65537, math.MaxInt, math.MinInt} {
		if l, e := ordinary.Chain(h, o); len(l) != 0 || e != api.ErrRef {
			t.Errorf("9.11: Chain(%d): %v, %v", o, l, e)
		}
	}
}
