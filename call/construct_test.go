package call_test

// 11.4: Construct of a constructor.

import (
	"testing"

	"cameo/api"
	"cameo/heap"
)

// builds constructs, and holds what comes of it, and what it costs, against what these must be.
func builds(t *testing.T, h *heap.Heap, name string, cost, want int, wrong error, f, target int, args ...api.Value) {
	t.Helper()
	was := h.Fuel()
	n, err := h.Construct(f, args, target)
	if n != want || !sameError(err, wrong) || was-h.Fuel() != cost {
		t.Errorf("11.4: %s: %d, %v, %d spent; want %d, %v, %d spent", name, n, err, was-h.Fuel(), want, wrong, cost)
	}
}

func protoOf(t *testing.T, h *heap.Heap, o int) api.Value {
	t.Helper()
	s, e := h.Shape(o)
	if e != api.OK || s.Class != api.COrdinary || !s.Extensible || len(s.Props) != 0 {
		t.Errorf("11.4: %v, %v", s, e)
	}
	return s.Proto
}

// 11.4: the new object's prototype is what the target tells, if that is an object.
func TestPrototypeOfTheTarget(t *testing.T) {
	for _, v := range append(noObjects(), ref(1), ref(2)) {
		want := null()
		if v.Kind == api.KRef {
			want = v
		}
		h := newHeap(t, 9, 1000, 9)
		made(t, h, null())
		f, target := ctor(t, h), ctor(t, h, throw(0)) // the target's body is not run
		lay(t, h, f, str("prototype"), open(num(1)))
		lay(t, h, target, str("prototype"), api.Desc{Value: v})
		builds(t, h, "data", 1+1, 4, nil, f, target)
		if got := protoOf(t, h, 4); got != want {
			t.Errorf("11.4: %v of %v", got, v)
		}
		// A getter is called with the target as the receiver.
		tells := fn(t, h, op(api.OThis), at(str("p"), op(api.OGet, 1)), give(1))
		getting := ctor(t, h)
		lay(t, h, getting, str("p"), open(v))
		lay(t, h, getting, str("prototype"), api.Desc{Get: ref(tells)})
		builds(t, h, "a getter", 1+1+1+3+1, 7, nil, f, getting)
		if got := protoOf(t, h, 7); got != want {
			t.Errorf("11.4: %v of a getter of %v", got, v)
		}
		// So it is, where the target has it of its own prototype.
		heir := ctor(t, h)
		h.SetPrototypeOf(heir, ref(target))
		builds(t, h, "an heir", 1+2, 9, nil, f, heir)
		if got := protoOf(t, h, 9); got != want {
			t.Errorf("11.4: %v of an heir of %v", got, v)
		}
	}
	h := newHeap(t, 3, 1000, 9)
	f, g := ctor(t, h), ctor(t, h)
	lay(t, h, f, str("prototype"), open(ref(g)))
	builds(t, h, "none", 1+1, 3, nil, f, g)
	if got := protoOf(t, h, 3); got != null() {
		t.Errorf("11.4: %v of none", got)
	}
}

// 11.4: what the body sees: the new object, the arguments, the target, and the function itself.
func TestWhatABodySees(t *testing.T) {
	h := newHeap(t, 9, 1000, 9)
	see := made(t, h, null())
	f := ctor(t, h,
		constant(0, ref(see)), op(api.OThis, 1), op(api.OArg, 2, 0), op(api.OArg, 3, 1), op(api.OArg, 4, 2), op(api.OTarget, 5), op(api.OSelf, 6),
		at(str("this"), op(api.OSet, 9, 0, 1)), at(str("0"), op(api.OSet, 9, 0, 2)), at(str("1"), op(api.OSet, 9, 0, 3)), at(str("2"), op(api.OSet, 9, 0, 4)),
		at(str("target"), op(api.OSet, 9, 0, 5)), at(str("self"), op(api.OSet, 9, 0, 6)))
	target := ctor(t, h)
	sees := func(want map[string]api.Value) {
		t.Helper()
		for k, v := range want {
			if got, err := h.Get(see, str(k), null()); got != v || err != nil {
				t.Errorf("11.4: %s is %v, %v, want %v", k, got, err, v)
			}
		}
	}
	builds(t, h, "a target", 2+13+6*3, 4, nil, f, target, num(5), text("x"))
	sees(map[string]api.Value{"this": ref(4), "0": num(5), "1": text("x"), "2": undefined(), "target": ref(target), "self": ref(f)})
	builds(t, h, "itself", 2+13+6*3, 5, nil, f, f)
	sees(map[string]api.Value{"this": ref(5), "0": undefined(), "target": ref(f), "self": ref(f)})
	calls(t, h, "11.3: called", 1+13+6*3, undefined(), nil, f, num(8), num(9))
	sees(map[string]api.Value{"this": num(8), "0": num(9), "1": undefined(), "target": undefined(), "self": ref(f)})
	g := fn(t, h, constant(0, ref(f)), op(api.ONew, 1, 0, 0), give(1))
	calls(t, h, "11.3: ONew", 1+3+2+13+6*3, ref(7), nil, g, num(8), num(9))
	sees(map[string]api.Value{"this": ref(7), "0": ref(f), "1": undefined(), "target": ref(f), "self": ref(f)})
}

// 11.4: the answer is what OReturn answers, if that is an object, else the new object.
func TestAnswerOfConstruct(t *testing.T) {
	for _, v := range noObjects() {
		h := newHeap(t, 2, 1000, 9)
		f := ctor(t, h, constant(0, v), give(0))
		builds(t, h, "no object", 2+2, 2, nil, f, f)
	}
	h := newHeap(t, 12, 1000, 9)
	o := made(t, h, null())
	given := ctor(t, h, op(api.OArg), give(0))
	builds(t, h, "an object", 2+2, o, nil, given, given, ref(o))
	builds(t, h, "itself", 2+2, given, nil, given, given, ref(given))
	if h.Len() != 4 {
		t.Errorf("11.4: the new object is made, all the same: %d", h.Len())
	}
	builds(t, h, "an object in a register, and no OReturn", 2+2, 6, nil, ctor(t, h, constant(0, ref(o)), op(api.OMove, 1, 0)), given)
	builds(t, h, "the new one", 2+2, 8, nil, ctor(t, h, op(api.OThis), give(0)), given)
	thrower := ctor(t, h, op(api.OThis), throw(0))
	builds(t, h, "a throw", 2+2, 0, thrown(ref(10)), thrower, given)
	builds(t, h, "a throw", 2+2, 0, thrown(ref(11)), thrower, thrower)
}

// 11.4: no room, a getter that throws or stops, fuel and depth that run out: what comes ahead of the body ends it.
func TestConstructEndsEarly(t *testing.T) {
	h := newHeap(t, 3, 1000, 9)
	f := ctor(t, h, op(api.OThis), throw(0))
	throws := fn(t, h, op(api.OThis), throw(0))
	target := ctor(t, h)
	lay(t, h, target, str("prototype"), api.Desc{Get: ref(throws)})
	builds(t, h, "no room", 1+1, 0, api.ErrFull, f, f)
	builds(t, h, "a getter that throws, ahead of no room", 1+1+3, 0, thrown(ref(target)), f, target)
	for fuel := range 5 {
		h.Refuel(fuel)
		builds(t, h, "no fuel", fuel, 0, api.ErrFuel, f, target)
	}
	if h.Len() != 3 {
		t.Errorf("11.4: %d objects", h.Len())
	}
	flat := newHeap(t, 2, 100, 1)
	c := ctor(t, flat)
	builds(t, flat, "the target's Get is entered within Construct", 2, 0, api.ErrDepth, c, c)
	// A body that runs out of fuel leaves the new object, and what has been done with it.
	left := newHeap(t, 2, 2+2+3+0, 9)
	d := ctor(t, left, op(api.OThis), at(str("a"), op(api.OSet, 1, 0, 1)), op(api.OPrevent, 1, 0))
	builds(t, left, "no fuel in the body", 7, 0, api.ErrFuel, d, d)
	if s, e := left.Shape(2); !s.Extensible || len(s.Props) != 1 || s.Proto != null() || e != api.OK {
		t.Errorf("11.4: %v, %v", s, e)
	}
}

// 11.4: who is no constructor is refused, at no cost (7.4), on either side.
func TestNoConstructor(t *testing.T) {
	h := newHeap(t, 9, 100, 9)
	f, c, o := fn(t, h), ctor(t, h), made(t, h, null())
	for _, n := range []int{f, o} {
		builds(t, h, "no constructor", 0, 0, api.ErrKind, n, c)
		builds(t, h, "no constructor as a target", 0, 0, api.ErrKind, c, n)
		builds(t, h, "neither", 0, 0, api.ErrKind, n, n)
	}
	builds(t, h, "both", 2, 4, nil, c, c)
	calls(t, h, "11.3: a constructor is called, too", 1, undefined(), nil, c, null())
}

// 11.4: constructors that construct by others, by themselves, and by what they are given.
func TestConstructWithin(t *testing.T) {
	h := newHeap(t, 40, 1000, 12)
	inner := ctor(t, h, op(api.OThis), op(api.OArg, 1), at(str("v"), op(api.OSet, 2, 0, 1)))
	outer := ctor(t, h, op(api.OArg, 0), constant(1, num(3)), op(api.ONew, 2, 0, 1), give(2))
	builds(t, h, "by another", 2+4+(2+3+3), 4, nil, outer, outer, ref(inner))
	if v, err := h.Get(4, str("v"), null()); v != num(3) || err != nil {
		t.Errorf("11.4: %v, %v", v, err)
	}
	if s, _ := h.Shape(3); len(s.Props) != 0 {
		t.Errorf("11.4: the outer one's own object is another: %v", s)
	}
	h.Refuel(1000)
	self := ctor(t, h, op(api.OSelf), caught(op(api.ONew, 1, 0, 0)))
	was := h.Len()
	// The 12th is as deep as may be: the Get of its target's prototype is too deep, and no object is made.
	builds(t, h, "by itself", 11*(2+2)+2, 0, api.ErrDepth, self, self)
	if h.Len() != was+11 {
		t.Errorf("11.4: %d objects, want %d", h.Len(), was+11)
	}
}
