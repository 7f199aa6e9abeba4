package bound_test

// 18.4: a function is bound: what is asked of it, in which order, and what has been made where that ends otherwise.

import (
	"math"
	"slices"
	"strings"
	"testing"

	"cameo/api"
	"cameo/bound"
	"cameo/heap"
)

// result is what a bound function is to look like.
type result struct {
	o      int
	proto  api.Value
	length api.Value
	name   api.Value // no value: it comes to none
}

// left looks at what has been made by the step with that number.
func (r result) left(steps []string) func(t *testing.T, h *heap.Heap, n int) {
	return func(t *testing.T, h *heap.Heap, n int) {
		t.Helper()
		length, name := told("length", r.length), told("name", r.name)
		switch {
		case n < len(steps) && strings.HasPrefix(steps[n], "proto"):
			if h.Len() != r.o-1 {
				t.Errorf("18.4: %d objects", h.Len())
			}
		case n < len(steps) && strings.Contains(steps[n], "length"):
			looks(t, h, r.o, boundShape(r.proto))
		case n < len(steps) || r.name == api.Value{}:
			looks(t, h, r.o, boundShape(r.proto, length))
		default:
			looks(t, h, r.o, boundShape(r.proto, length, name))
		}
	}
}

// bound is a scene in which the last object of the heap is bound, with so many arguments.
func (r result) bound(name string, args int, steps []string, build func(s stage) int) scene {
	x := scene{name: name, build: func(s stage) act {
		f := build(s)
		return binds(f, num(7), values(0, args)...)
	}, steps: steps, want: r.o, left: r.left(steps)}
	if (r.name == api.Value{}) {
		x.wrong = rangeError()
	}
	return x
}

// asked is the steps of a function 1 that has a length, and is asked for its name.
func asked() []string {
	return []string{"proto #1", "own #1 length", "get #1 length #1", "get #1 name #1"}
}

func TestBindWithoutAnything(t *testing.T) {
	steps := []string{"proto #1", "own #1 length", "get #1 name #1"}
	for _, args := range []int{0, 1, 3} {
		r := result{2, null(), num(0), text("bound ")}
		r.bound("18.4: nothing", args, steps, func(s stage) int { return s.caller(null(), "f", null(), nil) }).holds(t)
		r.bound("18.4: other things", args, steps, func(s stage) int {
			return s.builder(null(), "f", null(), nil, has("Length", num(9)), has("names", text("a")), api.Prop{Key: sym(2), Desc: open(num(1))}, has("prototype", num(1)))
		}).holds(t)
	}
}

// lengths is lengths that a function may have, how many arguments it is given, and what is left of them.
func lengths() [][3]float64 {
	l := [][3]float64{
		{3, 0, 3}, {3, 1, 2}, {3, 2, 1}, {3, 3, 0}, {3, 4, 0}, {0, 0, 0}, {0, 1, 0}, {1, 0, 1}, {1, 1, 0},
		{3.7, 0, 3}, {3.7, 1, 2}, {3.2, 3, 0}, {0.9, 0, 0}, {-0.9, 0, 0}, {-1, 0, 0}, {-3.7, 1, 0}, {-5, 5, 0}, {1e-300, 0, 0},
		{below0, 0, 0}, {below0, 2, 0}, {nan, 0, 0}, {nan, 2, 0},
		{endless, 0, endless}, {endless, 3, endless}, {-endless, 0, 0}, {-endless, 3, 0},
		{1 << 53, 0, 1 << 53}, {1 << 53, 1, 1<<53 - 1}, {1<<53 + 2, 1, 1 << 53}, {1<<53 + 4, 1, 1<<53 + 4}, {1<<53 + 2, 2, 1 << 53}, {1<<32 - 1, 1, 1<<32 - 2}, {1 << 32, 0, 1 << 32},
		{1e300, 4, 1e300}, {-1e300, 4, 0}, {math.MaxFloat64, 4, math.MaxFloat64}, {4294967295.5, 0, 4294967295},
	}
	return l
}

func TestBindLength(t *testing.T) {
	for _, x := range lengths() {
		r := result{3, null(), num(x[2]), text("bound ")}
		own := func(d api.Desc) {
			t.Helper()
			r.bound("18.4: length", int(x[1]), asked(), func(s stage) int {
				f := s.builder(null(), "f", null(), nil)
				made(s.t, s.h, null())
				lay(s.t, s.h, f, api.Prop{Key: str("length"), Desc: d})
				return f
			}).holds(t)
		}
		own(open(num(x[0])))
		own(api.Desc{Value: num(x[0])})
		steps := slices.Insert(asked(), 3, "call length #1")
		r.bound("18.4: a getter of length", int(x[1]), steps, func(s stage) int {
			f := s.caller(null(), "f", null(), nil)
			lay(s.t, s.h, f, got("length", s.getter("length", num(x[0]), nil)))
			return f
		}).holds(t)
	}
}

// A length that is no number is none; it is asked for all the same.
func TestBindLengthNoNumber(t *testing.T) {
	for _, v := range append(plain(), text("3"), ref(1), ref(2)) {
		if v.Kind == api.KNum {
			continue
		}
		r := result{3, null(), num(0), text("bound ")}
		r.bound("18.4: length", 1, asked(), func(s stage) int {
			f := s.caller(null(), "f", null(), nil)
			// An object is not asked what number it is.
			s.seer(null(), has("valueOf", ref(f)))
			lay(s.t, s.h, f, has("length", v))
			return f
		}).holds(t)
		steps := slices.Insert(asked(), 3, "call length #1")
		r.bound("18.4: a getter of length", 1, steps, func(s stage) int {
			f := s.caller(null(), "f", null(), nil)
			lay(s.t, s.h, f, got("length", s.getter("length", v, nil)))
			return f
		}).holds(t)
	}
	r := result{2, null(), num(0), text("bound ")}
	r.bound("18.4: no getter of length", 0, asked(), func(s stage) int {
		return s.caller(null(), "f", null(), nil, got("length", undefined()))
	}).holds(t)
}

// A length that is inherited says nothing, and is not asked for; a name does.
func TestBindInherited(t *testing.T) {
	steps := []string{"proto #2", "own #2 length", "get #2 name #2", "get #1 name #2"}
	r := result{3, ref(1), num(0), text("bound above")}
	r.bound("18.4: inherited", 1, steps, func(s stage) int {
		return s.caller(ref(s.seer(null(), has("length", num(5)), has("name", text("above")))), "f", null(), nil)
	}).holds(t)
	r = result{4, ref(2), num(0), text("bound told")}
	steps = []string{"proto #3", "own #3 length", "get #3 name #3", "get #2 name #3", "call name #3"}
	r.bound("18.4: inherited getters", 1, steps, func(s stage) int {
		above := s.getter("name", text("told"), nil)
		return s.caller(ref(s.seer(null(), got("length", above), got("name", above))), "f", null(), nil)
	}).holds(t)
	// What is its own hides what is inherited.
	r = result{3, ref(1), num(4), text("bound own")}
	steps = []string{"proto #2", "own #2 length", "get #2 length #2", "get #2 name #2"}
	r.bound("18.4: both", 1, steps, func(s stage) int {
		return s.caller(ref(s.seer(null(), has("length", num(9)), has("name", text("above")))), "f", null(), nil, has("length", num(5)), has("name", text("own")))
	}).holds(t)
	r = result{4, ref(2), num(0), text("bound ")}
	steps = []string{"proto #3", "own #3 length", "get #3 name #3", "get #2 name #3", "get #1 name #3"}
	r.bound("18.4: nowhere", 0, steps, func(s stage) int {
		return s.caller(ref(s.seer(ref(s.seer(null())))), "f", null(), nil)
	}).holds(t)
}

func TestBindName(t *testing.T) {
	steps := []string{"proto #1", "own #1 length", "get #1 name #1"}
	for _, v := range append(plain(), text("g"), text("bound g"), text(" "), text("\xed\xb8\x80"), text("\x00"), ref(1), ref(2)) {
		want := text("bound ")
		if v.Kind == api.KStr {
			want = text("bound " + v.Str)
		}
		r := result{3, null(), num(0), want}
		r.bound("18.4: name", 1, steps, func(s stage) int {
			f := s.caller(null(), "f", null(), nil)
			s.seer(null(), has("toString", ref(f)))
			lay(s.t, s.h, f, has("name", v))
			return f
		}).holds(t)
		r.bound("18.4: a getter of name", 1, append(steps, "call name #1"), func(s stage) int {
			f := s.caller(null(), "f", null(), nil)
			lay(s.t, s.h, f, got("name", s.getter("name", v, nil)))
			return f
		}).holds(t)
	}
	r := result{2, null(), num(0), text("bound ")}
	r.bound("18.4: no getter of name", 0, steps, func(s stage) int {
		return s.caller(null(), "f", null(), nil, got("name", undefined()))
	}).holds(t)
}

// Six bytes more than the name must fit; where they do not, the new object is there, with its length alone.
func TestBindNameTooLong(t *testing.T) {
	for _, x := range []struct {
		long int
		fits bool
	}{{api.MaxStr - 7, true}, {api.MaxStr - 6, true}, {api.MaxStr - 5, false}, {api.MaxStr - 1, false}, {api.MaxStr, false}} {
		h := newHeap(t, 2, 100, 2)
		f := fn(t, h)
		s := strings.Repeat("n", x.long)
		lay(t, h, f, has("length", num(2)), has("name", text(s)))
		if x.fits {
			binds(f, null(), num(1)).is(t, h, 4, 2, nil)
			looks(t, h, 2, boundShape(null(), told("length", num(1)), told("name", text("bound "+s))))
			continue
		}
		binds(f, null(), num(1)).is(t, h, 4, nil, rangeError())
		looks(t, h, 2, boundShape(null(), told("length", num(1))))
		// What was made can be called, and is bound.
		targetOf(2).is(t, h, 0, binding{f, null(), values(1, 1)}, nil)
		calls(2, null()).is(t, h, 2, undefined(), nil)
	}
	// It is bytes that count, not units.
	h := newHeap(t, 3, 100, 1)
	f := fn(t, h)
	lay(t, h, f, has("name", text(strings.Repeat("\u20ac", api.MaxStr/3))))
	binds(f, null()).is(t, h, 3, nil, rangeError())
	r := result{o: 2, proto: null(), length: num(0)}
	r.bound("18.4: a getter of a long name", 1, []string{"proto #1", "own #1 length", "get #1 name #1"}, func(s stage) int {
		return s.caller(null(), "f", null(), nil, has("name", text(tooLong[1:])))
	}).holds(t)
}

// That there is room is asked behind the prototype, and ahead of all else.
func TestBindFull(t *testing.T) {
	full := func(room int, steps []string, build func(s stage) act) {
		t.Helper()
		scene{name: "18.4: full", build: build, steps: steps, wrong: api.ErrFull, room: room, left: func(t *testing.T, h *heap.Heap, _ int) {
			t.Helper()
			if h.Len() != room {
				t.Errorf("18.4: %d objects", h.Len())
			}
		}}.holds(t)
	}
	full(1, []string{"proto #1"}, func(s stage) act {
		return binds(s.builder(null(), "f", null(), nil, has("length", num(1)), has("name", text("a"))), null())
	})
	full(2, []string{"proto #2"}, func(s stage) act {
		return binds(s.caller(ref(s.seer(null())), "f", null(), nil), null(), num(1))
	})
	// Room for one more is enough.
	h := newHeap(t, 2, 100, 1)
	f := fn(t, h)
	binds(f, null()).is(t, h, 3, 2, nil)
	binds(f, null()).is(t, h, 1, nil, api.ErrFull)
	binds(2, null()).is(t, h, 1, nil, api.ErrFull)
	h.Refuel(0)
	binds(f, null()).is(t, h, 0, nil, api.ErrFuel)
}

// Its prototype is the target's, whatever that is.
func TestBindPrototype(t *testing.T) {
	h := newHeap(t, 9, 100, 9)
	o, f := made(t, h, null()), fn(t, h)
	for _, proto := range []api.Value{null(), ref(o)} {
		if ok, err := h.SetPrototypeOf(f, proto); !ok || err != nil {
			t.Fatal(err)
		}
		looks(t, h, bind(t, h, f, null()), boundShape(proto, told("length", num(0)), told("name", text("bound "))))
	}
	// One that goes another way later stays with what is bound.
	if ok, err := h.SetPrototypeOf(f, null()); !ok || err != nil {
		t.Fatal(err)
	}
	if v, err := h.GetPrototypeOf(4); v != ref(o) || err != nil {
		t.Errorf("18.4: %v, %v", v, err)
	}
}

// Target tells what it was bound with, of values of every sort.
func TestTarget(t *testing.T) {
	all := append(plain(), ref(1), ref(2))
	h := newHeap(t, 60, 1000, 9)
	f, other := fn(t, h), made(t, h, null())
	for i, this := range all {
		l := all[:i]
		b := bind(t, h, f, this, l...)
		o, got, args, e := bound.Target(h, b)
		if o != f || !sameValue(got, this) || !slices.EqualFunc(args, l, sameValue) || e != api.OK {
			t.Errorf("18.4: %d, %v, %v, %v; want %d, %v, %v", o, got, args, e, f, this, l)
		}
	}
	for _, n := range []int{1023, 1024} {
		targetOf(bind(t, h, f, null(), values(1, n)...)).is(t, h, 0, binding{f, null(), values(1, n)}, nil)
	}
	// The target of what is bound twice is bound itself, and may be the receiver, too.
	b := bind(t, h, f, null(), num(1))
	twice := bind(t, h, b, ref(b), ref(b), ref(f))
	targetOf(twice).is(t, h, 0, binding{b, ref(b), []api.Value{ref(b), ref(f)}}, nil)
	targetOf(b).is(t, h, 0, binding{f, null(), values(1, 1)}, nil)
	for _, o := range []int{f, other} {
		targetOf(o).is(t, h, 0, nil, api.ErrKind)
	}
}

// Functions of all classes are bound, and bound again: their length and name go along.
func TestBindAgain(t *testing.T) {
	h := newHeap(t, 9, 1000, 9)
	f := class(t, h)
	lay(t, h, f, has("length", num(5)), has("name", text("f")))
	binds(f, null(), values(0, 2)...).is(t, h, 4, 2, nil)
	binds(2, null(), values(0, 1)...).is(t, h, 4, 3, nil)
	binds(3, null(), values(0, 9)...).is(t, h, 4, 4, nil)
	looks(t, h, 2, boundShape(null(), told("length", num(3)), told("name", text("bound f"))))
	looks(t, h, 3, boundShape(null(), told("length", num(2)), told("name", text("bound bound f"))))
	looks(t, h, 4, boundShape(null(), told("length", num(0)), told("name", text("bound bound bound f"))))
	// A length that is gone is none, though there is one beneath.
	if ok, err := h.Delete(3, str("length")); !ok || err != nil {
		t.Fatal(err)
	}
	binds(3, null()).is(t, h, 3, 5, nil)
	looks(t, h, 5, boundShape(null(), told("length", num(0)), told("name", text("bound bound bound f"))))
}

// What is bound can be constructed, if what it ends in can.
func TestConstructorsOnly(t *testing.T) {
	h := newHeap(t, 20, 1000, 9)
	for f, ctor := range map[int]bool{class(t, h): true, fn(t, h): false} {
		b := f
		for range 4 {
			b = bind(t, h, b, null())
			if !h.Callable(ref(b)) || h.Constructor(ref(b)) != ctor {
				t.Errorf("18: %v, %v", h.Callable(ref(b)), h.Constructor(ref(b)))
			}
			if c, e := h.Class(b); c != api.CBound || e != api.OK {
				t.Errorf("18: %d, %v", c, e)
			}
		}
		if !ctor {
			constructs(b, b).is(t, h, 0, nil, api.ErrKind)
			constructs(class(t, h), b).is(t, h, 0, nil, api.ErrKind)
		}
	}
}

// Programs change the function while it is being bound: each thing is what it is when it is asked for.
func TestBindChangedInTheMidst(t *testing.T) {
	h := newHeap(t, 9, 1000, 9)
	f, other := fn(t, h), made(t, h, null())
	this, told1 := api.Op{Code: api.OThis}, api.Op{Code: api.OConst, To: 1, Val: text("anew")}
	getter := fn(t, h, this, told1,
		api.Op{Code: api.ODefine, To: 2, A: 0, B: 1, Key: str("name"), Flag: true},
		api.Op{Code: api.OConst, To: 3, Val: ref(other)},
		api.Op{Code: api.OReproto, To: 2, A: 0, B: 3},
		api.Op{Code: api.ODelete, To: 2, A: 0, Key: str("length")},
		api.Op{Code: api.OConst, To: 4, Val: num(6)},
		api.Op{Code: api.OReturn, A: 4})
	lay(t, h, f, got("length", ref(getter)), has("name", text("old")))
	binds(f, null(), values(0, 2)...).is(t, h, 3+1+8+3+1, 4, nil)
	looks(t, h, 4, boundShape(null(), told("length", num(4)), told("name", text("bound anew"))))
	binds(f, null(), values(0, 2)...).is(t, h, 3, 5, nil)
	looks(t, h, 5, boundShape(ref(other), told("length", num(0)), told("name", text("bound anew"))))
}

// A program that runs meanwhile may make objects: then there may be no room for those, or the new one has a number ahead of them.
func TestBindAmongOthers(t *testing.T) {
	for room := 2; room <= 4; room++ {
		h := newHeap(t, room, 1000, 9)
		f := fn(t, h)
		lay(t, h, f, got("name", ref(fn(t, h, api.Op{Code: api.OConst, Val: null()}, api.Op{Code: api.OMake, To: 1}))))
		switch room {
		case 2:
			binds(f, null()).is(t, h, 1, nil, api.ErrFull)
		case 3:
			binds(f, null()).is(t, h, 3+1+2, nil, api.ErrFull)
			looks(t, h, 3, boundShape(null(), told("length", num(0))))
		case 4:
			binds(f, null()).is(t, h, 3+1+2, 3, nil)
			looks(t, h, 3, boundShape(null(), told("length", num(0)), told("name", text("bound "))))
			looks(t, h, 4, api.Shape{Class: api.COrdinary, Proto: null(), Extensible: true})
		}
	}
}
