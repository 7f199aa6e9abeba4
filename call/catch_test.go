package call_test

// 11.1, 11.3, 11.5: what a throw is as a value, what is caught, and what stops.

import (
	"errors"
	"fmt"
	"testing"

	"cameo/api"
	"cameo/call"
	"cameo/heap"
)

// round is an error that is its own cause.
type round struct{}

func (r *round) Error() string { return "round" }
func (r *round) Unwrap() error { return r }

// liar is an error that would be taken for any other one by who asks it.
type liar []int

func (liar) Error() string { return "liar" }
func (liar) As(target any) bool {
	if t, ok := target.(**api.Thrown); ok {
		*t = &api.Thrown{Kind: api.XType}
	}
	return true
}

// 11.1
func TestCaught(t *testing.T) {
	names := map[int]string{api.XType: "TypeError", api.XRange: "RangeError", api.XSyntax: "SyntaxError", api.XReference: "ReferenceError"}
	is := func(want api.Value, ok bool, err error) {
		t.Helper()
		if v, got := call.Caught(err); v != want || got != ok {
			t.Errorf("11.1: Caught(%v): %v, %v, want %v, %v", err, v, got, want, ok)
		}
	}
	for _, v := range append(noObjects(), ref(1), ref(65536), api.Value{Kind: api.KNum, Num: -0.5}) {
		is(v, true, thrown(v))
		for kind, name := range names {
			is(text(name), true, &api.Thrown{Kind: kind, Value: v})
		}
	}
	for _, v := range broken() {
		is(api.Value{}, false, thrown(v))
		for kind, name := range names {
			is(text(name), true, &api.Thrown{Kind: kind, Value: v})
		}
	}
	for _, kind := range []int{-1, 0, 6, 7, 256 + api.XType} {
		is(api.Value{}, false, &api.Thrown{Kind: kind})
		is(api.Value{}, false, &api.Thrown{Kind: kind, Value: num(1)})
	}
	for e := api.Errno(-1); e < 310; e++ {
		is(api.Value{}, false, e)
	}
	for _, err := range []error{nil, errors.New("TypeError"), &api.Wrong{}, fmt.Errorf("around: %w", typeError()), errors.Join(typeError()), &round{}, liar{1}} {
		is(api.Value{}, false, err)
	}
	is(api.Value{}, false, (*api.Thrown)(nil))
}

// hazard is an operation over the registers that hazardous sets, and what it spends, beside its own unit, until the function is called.
type hazard struct {
	op   api.Op
	cost int
}

func hazards() []hazard {
	return []hazard{
		{op(api.OCall, 9, 0, 1, 2), 1},
		{at(str("a"), op(api.OGet, 9, 1)), 2}, {at(str("a"), op(api.OSet, 9, 1, 2)), 2}, {op(api.OGetBy, 9, 1, 2), 2}, {op(api.OSetBy, 9, 1, 2, 2), 2},
		{op(api.ONew, 9, 3, 2), 3},
	}
}

// hazardous is a heap with a function that ends in an error, and a body that does an operation over the registers 0 (that function), 1 (an object whose a is got and set by it), 2 (the string a) and 3 (a constructor whose prototype it must tell).
func hazardous(t *testing.T, err error, o api.Op) (*heap.Heap, int) {
	t.Helper()
	h := newHeap(t, 4, 1000, 9)
	n := addNative(t, h, func(*heap.Heap, api.Value, []api.Value) (api.Value, error) { return api.Value{}, err })
	x, c := made(t, h, null()), ctor(t, h)
	lay(t, h, x, str("a"), api.Desc{Get: ref(n), Set: ref(n)})
	lay(t, h, c, str("prototype"), api.Desc{Get: ref(n)})
	return h, fn(t, h, constant(0, ref(n)), constant(1, ref(x)), constant(2, text("a")), constant(3, ref(c)), o, give(9))
}

// 11.3: whatever is thrown, in the midst of whichever operation, becomes To, if it is caught; else it goes on as it is.
func TestThrownKinds(t *testing.T) {
	for kind, want := range map[int]api.Value{
		api.XValue: symbol(3), api.XType: text("TypeError"), api.XRange: text("RangeError"), api.XSyntax: text("SyntaxError"), api.XReference: text("ReferenceError"),
	} {
		err := &api.Thrown{Kind: kind}
		if kind == api.XValue {
			err.Value = want
		}
		for _, z := range hazards() {
			h, f := hazardous(t, err, z.op)
			calls(t, h, "11.3: thrown", 1+5+z.cost, api.Value{}, err, f, null())
			h, f = hazardous(t, err, caught(z.op))
			calls(t, h, "11.3: caught", 1+6+z.cost, want, nil, f, null())
		}
	}
}

// 11.3: what stops is not caught, in the midst of whichever operation.
func TestStopsAreNotCaught(t *testing.T) {
	for _, err := range []api.Errno{api.ErrFuel, api.ErrDepth, api.ErrFull, api.ErrRef, api.ErrLong, 77} {
		for _, z := range hazards() {
			for _, o := range []api.Op{z.op, caught(z.op)} {
				h, f := hazardous(t, err, o)
				calls(t, h, "11.3: stopped", 1+5+z.cost, api.Value{}, err, f, null())
			}
		}
	}
}

// 11.3: fuel, depth and room that run out within functions end all of them, though each one catches.
func TestStopsOfTheHeap(t *testing.T) {
	h := newHeap(t, 3, 1000, 4)
	deep := fn(t, h, op(api.OSelf), caught(op(api.OCall, 1)), op(api.OSelf), give(1))
	calls(t, h, "too deep", 3*4+1, api.Value{}, api.ErrDepth, deep, null())
	for fuel := range 13 {
		h.Refuel(fuel)
		calls(t, h, "no fuel", fuel, api.Value{}, api.ErrFuel, deep, null())
	}
	h.Refuel(1000)
	full := fn(t, h, constant(0, null()), caught(op(api.OMake, 1)), caught(op(api.OMake, 1)), give(1))
	calls(t, h, "no room", 4, api.Value{}, api.ErrFull, full, null())
	// Behind a stop all is left that was entered: the next call is as deep as ever.
	calls(t, h, "too deep", 3*4+1, api.Value{}, api.ErrDepth, deep, null())
}

// 11.3: a body goes on behind what it has caught; what is thrown later is not caught by what stood ahead of it.
func TestBehindACatch(t *testing.T) {
	h := newHeap(t, 9, 1000, 9)
	seven := constant(0, num(7))
	calls(t, h, "example 2", 1+2, api.Value{}, thrown(num(7)), fn(t, h, seven, throw(0)), null())
	calls(t, h, "example 2", 1+3, num(7), nil, fn(t, h, seven, caught(op(api.OThrow, 1, 0)), give(1)), null())
	calls(t, h, "not caught", 1+3, api.Value{}, thrown(num(7)), fn(t, h, seven, caught(op(api.OThrow, 1, 0)), throw(1), give(1)), null())
	calls(t, h, "Catch of what answers", 1+3, num(7), nil, fn(t, h, seven, caught(op(api.OMove, 1, 0)), give(1)), null())
	calls(t, h, "over what it needs", 1+4, text("TypeError"), nil, fn(t, h, seven, caught(at(str("a"), op(api.OGet, 0, 0))), op(api.OMove, 1, 0), give(1)), null())
	calls(t, h, "nothing behind it", 1+2, undefined(), nil, fn(t, h, seven, caught(op(api.OThrow, 1, 0))), null())
	inner := fn(t, h, constant(3, num(8)), throw(3))
	calls(t, h, "of an inner one", 1+2+3+1, num(8), nil, fn(t, h, constant(0, ref(inner)), caught(op(api.OCall, 4, 0, 0, 0)), give(4)), null())
}

// 11.5: what is caught changes nothing that was done until then.
func TestCaughtIsNotUndone(t *testing.T) {
	h := newHeap(t, 4, 1000, 9)
	o := made(t, h, null())
	inner := fn(t, h, op(api.OThis), constant(1, num(1)), at(str("a"), op(api.OSet, 2, 0, 1)), op(api.OPrevent, 2, 0), op(api.OMake, 3, 0), throw(3))
	outer := fn(t, h, op(api.OThis), constant(1, ref(inner)), caught(op(api.OCall, 2, 1, 0, 0)), give(2))
	calls(t, h, "caught", 1+4+(1+6+3+1), ref(4), nil, outer, ref(o))
	if s, _ := h.Shape(o); !sameShape(s, api.Shape{Class: api.COrdinary, Proto: null(), Props: []api.Prop{{Key: str("a"), Desc: open(num(1))}}}) {
		t.Errorf("11.5: %v", s)
	}
	if s, _ := h.Shape(4); !sameShape(s, api.Shape{Class: api.COrdinary, Proto: ref(o), Extensible: true}) {
		t.Errorf("11.5: %v", s)
	}
}
