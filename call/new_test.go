package call_test

// 11.2: New, with what it refuses, and Body.

import (
	"math"
	"slices"
	"strings"
	"testing"

	"cameo/api"
	"cameo/call"
	"cameo/heap"
)

// three is a heap with the objects 1 (ordinary), 2 (a function), 3 (ordinary, of 1); there is room for so many more.
func three(t *testing.T, room int) *heap.Heap {
	t.Helper()
	h := newHeap(t, 3+room, 0, 1)
	made(t, h, null())
	fn(t, h)
	made(t, h, ref(1))
	return h
}

// given is what New is given.
type given struct {
	room  int
	proto api.Value
	body  []api.Op
}

// fault is one thing that is wrong with it: rank is its place in the order of 11.2; where is what it turns.
type fault struct {
	where string
	rank  int
	e     api.Errno
	turn  func(g *given)
}

func faults() []fault {
	l := []fault{{"room", 6, api.ErrFull, func(g *given) { g.room = 0 }}}
	for _, n := range []int{257, 1000} {
		l = append(l, fault{"length", 2, api.ErrLong, func(g *given) { g.body = append(g.body, slices.Repeat([]api.Op{plain(api.OThis)}, n-len(g.body))...) }})
	}
	proto := func(e api.Errno, v api.Value) {
		l = append(l, fault{"proto", 1, e, func(g *given) { g.proto = v }})
	}
	for _, v := range append(broken(), undefined(), num(1), text("x"), yes(), symbol(1)) {
		proto(api.ErrValue, v)
	}
	proto(api.ErrRef, ref(4)) // the one that it would be itself
	proto(api.ErrRef, ref(65536))
	for i, where := range []string{"first", "second"} {
		operation := func(rank int, e api.Errno, o api.Op) {
			l = append(l, fault{where, rank, e, func(g *given) { g.body[2*i] = o }})
		}
		define := func(rank int, e api.Errno, d api.Desc) { operation(rank, e, api.Op{Code: api.ODefine, Desc: d}) }
		operation(3, api.ErrValue, op(25))
		operation(3, api.ErrValue, op(api.OThis, 16))
		operation(3, api.ErrValue, op(api.OMove, 0, -1))
		operation(3, api.ErrValue, op(api.OCall, 0, 0, 0, 16))
		operation(3, api.ErrValue, op(api.OArg, 0, math.MinInt))
		operation(3, api.ErrValue, op(api.OSkip, 0, 0, -1))
		operation(3, api.ErrValue, at(str("\xff"), op(api.OGet)))
		operation(3, api.ErrValue, constant(0, api.Value{}))
		operation(3, api.ErrValue, constant(0, ref(65537)))
		operation(3, api.ErrValue, constant(16, ref(4)))
		define(3, api.ErrValue, api.Desc{Writable: 3})
		define(3, api.ErrValue, api.Desc{Value: ref(9), Get: ref(1)})
		operation(3, api.ErrValue, api.Op{Code: api.ODefine, Flag: true, Desc: api.Desc{Set: ref(1)}})
		operation(4, api.ErrRef, constant(0, ref(4)))
		operation(4, api.ErrRef, constant(0, ref(65536)))
		operation(4, api.ErrRef, api.Op{Code: api.ODefine, Flag: true, Desc: api.Desc{Value: ref(5)}})
		define(4, api.ErrRef, api.Desc{Value: ref(4)})
		define(4, api.ErrRef, api.Desc{Get: ref(4)})
		define(4, api.ErrRef, api.Desc{Get: ref(1), Set: ref(65536)})
		define(5, api.ErrKind, api.Desc{Get: ref(1)})
		define(5, api.ErrKind, api.Desc{Get: ref(2), Set: ref(3)})
		define(5, api.ErrKind, api.Desc{Set: ref(1), Get: undefined()})
	}
	return l
}

// refused makes a call with faults, which must change nothing.
func refused(t *testing.T, want api.Errno, l ...fault) {
	t.Helper()
	g := given{2, ref(3), []api.Op{constant(0, ref(1)), plain(api.OThis), {Code: api.ODefine, Desc: api.Desc{Get: ref(2)}}}}
	for _, f := range l {
		f.turn(&g)
	}
	for _, ctor := range []bool{false, true} {
		h := three(t, g.room)
		before, body := h.Shapes(), slices.Clone(g.body)
		if n, err := call.New(h, g.proto, g.body, ctor); n != 0 || err != want {
			t.Errorf("11.2: %d, %v, want %v", n, err, want)
		}
		if !sameShapes(h.Shapes(), before) || h.Fuel() != 0 || !slices.Equal(g.body, body) {
			t.Errorf("11.2: what is refused changes something: %v", h.Shapes())
		}
	}
}

// 11.2: each refusal, and of two the one that is named first, wherever in the body it stands.
func TestNewRefused(t *testing.T) {
	l := faults()
	for i, f := range l {
		refused(t, f.e, f)
		for _, g := range l[:i] {
			if f.where == g.where {
				continue
			}
			first := f
			if g.rank < f.rank {
				first = g
			}
			refused(t, first.e, g, f)
		}
	}
	long := strings.Repeat("x", api.MaxStr+1)
	refused(t, api.ErrValue, fault{turn: func(g *given) { g.proto = text(long) }})
	refused(t, api.ErrValue, fault{turn: func(g *given) { g.body[0] = constant(0, text(long)) }})
	refused(t, api.ErrValue, fault{turn: func(g *given) { g.body[1] = at(str(long), op(api.OHas)) }})
}

// 11.2: objects in fields that a code does not use are not looked at.
func TestNewLooksAtWhatIsUsed(t *testing.T) {
	for code := api.OConst; code <= api.OSetBy; code++ {
		h := three(t, 2)
		o := plain(code)
		if code != api.OConst {
			o.Val = ref(9)
		}
		if code != api.ODefine {
			o.Desc = api.Desc{Value: ref(9), Get: ref(1)}
		}
		if n, err := call.New(h, null(), []api.Op{o}, false); n != 4 || err != nil {
			t.Errorf("11.2: %d: %d, %v", code, n, err)
		}
	}
}

// bodies is sound bodies of all kinds over the heap three: none, one and many operations, all codes, fields that are not used.
func bodies() [][]api.Op {
	var all, odd []api.Op
	for code := api.OConst; code <= api.OSetBy; code++ {
		o := plain(code)
		all = append(all, o)
		o.To, o.Catch = 15, true
		if !strings.Contains(uses()[code], "B") && code != api.OSkip {
			o.B = math.MinInt
		}
		if !strings.Contains(uses()[code], "C") {
			o.C = 99
		}
		if !strings.Contains(uses()[code], "K") {
			o.Key = api.Key{Str: "\xff", Sym: -3}
		}
		if code != api.OConst {
			o.Val = api.Value{Kind: 77, Str: "\xff", Id: -1}
		}
		if code != api.ODefine {
			o.Desc, o.Flag = api.Desc{Get: num(3), Writable: 9}, true
		}
		odd = append(odd, o)
	}
	defines := []api.Op{
		{Code: api.ODefine, Desc: api.Desc{Get: ref(2), Set: ref(2)}}, {Code: api.ODefine, Desc: api.Desc{Get: undefined(), Set: undefined()}},
		{Code: api.ODefine, Desc: open(ref(3)), Flag: true}, constant(3, ref(3)), constant(0, text(strings.Repeat("x", api.MaxStr))),
		op(api.OArg, 0, math.MaxInt), op(api.OSkip, 0, 0, math.MaxInt), at(sym(65536), op(api.OGet)),
	}
	return [][]api.Op{nil, {}, all, odd, defines, slices.Repeat(odd, 11)[:256]}
}

// 11.2: a new function with each prototype and body; it costs nothing, needs no depth, and tells its body.
func TestNew(t *testing.T) {
	for _, body := range bodies() {
		for _, proto := range []api.Value{null(), ref(1), ref(2), ref(3)} {
			for _, ctor := range []bool{false, true} {
				h := three(t, 1)
				before := h.Shapes()
				n, err := call.New(h, proto, body, ctor)
				if n != 4 || err != nil || h.Fuel() != 0 {
					t.Fatalf("11.2: %d, %v, fuel %d", n, err, h.Fuel())
				}
				if want := append(before, api.Shape{Class: api.CFunction, Proto: proto, Extensible: true}); !sameShapes(h.Shapes(), want) {
					t.Errorf("11.2: %v", h.Shapes())
				}
				if !h.Callable(ref(4)) || h.Constructor(ref(4)) != ctor {
					t.Errorf("11.2: %v, %v", h.Callable(ref(4)), h.Constructor(ref(4)))
				}
				if l, is, e := call.Body(h, 4); !slices.Equal(l, body) || is != ctor || e != api.OK {
					t.Errorf("11.2: %v, %v, %v", l, is, e)
				}
				if n, err := call.New(h, proto, body, ctor); n != 0 || err != api.ErrFull {
					t.Errorf("11.2: %d, %v", n, err)
				}
			}
		}
	}
}

// 11.2: Body of what is no object, or no function.
func TestBodyRefused(t *testing.T) {
	h := three(t, 2)
	addNative(t, h, nil) // can be called, and is none
	for o, want := range map[int]api.Errno{math.MinInt: api.ErrRef, -1: api.ErrRef, 0: api.ErrRef, 1: api.ErrKind, 3: api.ErrKind, 4: api.ErrKind, 5: api.ErrRef, 65536: api.ErrRef, math.MaxInt: api.ErrRef} {
		if l, ctor, e := call.Body(h, o); len(l) != 0 || ctor || e != want {
			t.Errorf("11.2: Body of %d: %v, %v, %v, want %v", o, l, ctor, e, want)
		}
	}
	if l, ctor, e := call.Body(h, 2); len(l) != 0 || ctor || e != api.OK {
		t.Errorf("11.2: %v, %v, %v", l, ctor, e)
	}
}

// A function has the ordinary methods: its properties and prototype are those of any object (9.1 to 9.10).
func TestFunctionsAreOrdinary(t *testing.T) {
	h := newHeap(t, 4, 100, 9)
	o, f := made(t, h, null()), fn(t, h, give(0))
	for _, done := range []func() (bool, error){
		func() (bool, error) { return h.SetPrototypeOf(f, ref(o)) },
		func() (bool, error) { return h.DefineOwnProperty(f, str("a"), open(num(1))) },
		func() (bool, error) { return h.Set(f, str("2"), ref(f), ref(f)) },
		func() (bool, error) { return h.Set(o, str("b"), num(3), ref(o)) },
		func() (bool, error) { return h.HasProperty(f, str("b")) },
		func() (bool, error) { return h.Delete(f, str("a")) },
		func() (bool, error) { return h.IsExtensible(f) },
		func() (bool, error) { return h.PreventExtensions(f) },
	} {
		if ok, err := done(); !ok || err != nil {
			t.Errorf("9: %v, %v", ok, err)
		}
	}
	want := api.Shape{Class: api.CFunction, Proto: ref(o), Props: []api.Prop{{Key: str("2"), Desc: open(ref(f))}}}
	if s, e := h.Shape(f); !sameShape(s, want) || e != api.OK {
		t.Errorf("9: %v, %v", s, e)
	}
	if keys, err := h.OwnPropertyKeys(f); !slices.Equal(keys, []api.Key{str("2")}) || err != nil {
		t.Errorf("9.10: %v, %v", keys, err)
	}
	if v, err := h.GetPrototypeOf(f); v != ref(o) || err != nil {
		t.Errorf("9.1: %v, %v", v, err)
	}
	if v, err := h.Get(f, str("b"), ref(f)); v != num(3) || err != nil {
		t.Errorf("9.7: %v, %v", v, err)
	}
	if ok, err := h.SetPrototypeOf(o, ref(f)); ok || err != nil {
		t.Errorf("9.2: %v, %v", ok, err)
	}
}
