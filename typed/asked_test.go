package typed_test

// 15.4, 15.6: a value that is an object is asked for a number, and may do anything meanwhile: what the buffer has is looked at behind that.

import (
	"slices"
	"testing"

	"cameo/api"
	"cameo/call"
	"cameo/heap"
	"cameo/typed"
)

// turn is what an object that is asked does.
type turn func(t *testing.T, h *heap.Heap) (api.Value, error)

// asked is a heap with the objects 1 (a buffer of 1 to 8), 2 (TUint8 over it, from 0, four long), 3 (an object that is asked by valueOf), 4 (its valueOf), 5 (TUint16 over it, from 2, three long), 6 (ordinary, of 2).
func asked(t *testing.T, do turn) *heap.Heap {
	t.Helper()
	h := newHeap(t, 9, 100, 9)
	filled(t, h, 1, 2, 3, 4, 5, 6, 7, 8)
	over(t, h, 1, api.TUint8, 0, 4)
	made(t, h, null())
	times := 0
	f := addNative(t, h, func(h *heap.Heap, this api.Value, given []api.Value) (api.Value, error) {
		if times++; this != ref(3) || len(given) != 0 || times > 1 {
			t.Errorf("asked for the time %d, with %v and %v", times, this, given)
		}
		return do(t, h)
	})
	define(t, h, 3, str("valueOf"), data(f, ""))
	over(t, h, 1, api.TUint16, 2, 3)
	made(t, h, ref(2))
	return h
}

// answers is a turn that answers, and does nothing; detaches and lays do something first.
func answers(v api.Value) turn {
	return func(*testing.T, *heap.Heap) (api.Value, error) { return v, nil }
}

func detaches(v api.Value) turn {
	return func(t *testing.T, h *heap.Heap) (api.Value, error) { detach(t, h, 1); return v, nil }
}

func overwrites(v api.Value) turn {
	return func(t *testing.T, h *heap.Heap) (api.Value, error) {
		if e := typed.Lay(h, 1, 0, []byte{11, 12, 13, 14, 15, 16, 17, 18}); e != api.OK {
			t.Error(e)
		}
		return v, nil
	}
}

// act is one that gives the element 1 of the array 2, or the byte 1, a value.
type act struct {
	name   string
	deep   int // how deep the act itself is
	within bool
	do     func(h *heap.Heap, v api.Value) (bool, error)
}

func giving() []act {
	return []act{
		{"Set", 1, true, func(h *heap.Heap, v api.Value) (bool, error) { return h.Set(2, at(1), v, ref(2)) }},
		{"Set by a child", 2, true, func(h *heap.Heap, v api.Value) (bool, error) { return h.Set(6, at(1), v, ref(2)) }},
		{"Define", 1, true, func(h *heap.Heap, v api.Value) (bool, error) {
			return h.DefineOwnProperty(2, at(1), api.Desc{Value: v})
		}},
		{"Define all", 1, true, func(h *heap.Heap, v api.Value) (bool, error) { return h.DefineOwnProperty(2, at(1), data(v, "wec")) }},
		{"Write", 0, false, func(h *heap.Heap, v api.Value) (bool, error) {
			err := typed.Write(h, 1, 1, api.TUint8, true, v)
			return err == nil, err
		}},
	}
}

// What asking by valueOf costs: Get of the symbol, of valueOf, and Call.
const asking = 3

// What the answer is becomes the element.
func TestAsked(t *testing.T) {
	for _, a := range giving() {
		for v, want := range map[api.Value]byte{num(7): 7, num(-1): 255, text(" 300 "): 44, yes(): 1, null(): 0, undefined(): 0, num(nan): 0} {
			h := asked(t, answers(v))
			if ok, err := a.do(h, ref(3)); !ok || err != nil || 100-h.Fuel() != a.deep+asking {
				t.Errorf("%s: %v, %v, %d spent", a.name, ok, err, 100-h.Fuel())
			}
			holds(t, h, 1, 1, want, 3, 4, 5, 6, 7, 8)
			h = asked(t, overwrites(v))
			if ok, err := a.do(h, ref(3)); !ok || err != nil {
				t.Errorf("%s: %v, %v", a.name, ok, err)
			}
			holds(t, h, 1, 11, want, 13, 14, 15, 16, 17, 18)
		}
	}
}

// What is detached meanwhile: an element is given nothing, and it is true all the same; Write throws.
func TestDetachedMeanwhile(t *testing.T) {
	for _, a := range giving() {
		h := asked(t, detaches(num(7)))
		before := h.Shapes()
		ok, err := a.do(h, ref(3))
		if a.within && (!ok || err != nil) || !a.within && !sameError(err, typeError()) || 100-h.Fuel() != a.deep+asking {
			t.Errorf("%s: %v, %v, %d spent", a.name, ok, err, 100-h.Fuel())
		}
		holds(t, h, 1)
		if !gone(h, 1) || !sameShapes(h.Shapes(), before) {
			t.Errorf("%s: %v", a.name, h.Shapes())
		}
	}
	// A place that was beyond the end, too, is beyond nothing now: the buffer is asked first whether it is detached.
	h := asked(t, detaches(num(7)))
	if err := typed.Write(h, 1, 100, api.TUint8, true, ref(3)); !sameError(err, typeError()) {
		t.Errorf("15.4: %v", err)
	}
	// One below 0 is refused ahead of asking.
	h = asked(t, func(t *testing.T, h *heap.Heap) (api.Value, error) { t.Error("15.4: asked"); return num(1), nil })
	if err := typed.Write(h, 1, -1, api.TUint8, true, ref(3)); !sameError(err, rangeError()) || h.Fuel() != 100 {
		t.Errorf("15.4: %v", err)
	}
	// One beyond the end is not.
	h = asked(t, answers(num(7)))
	if err := typed.Write(h, 1, 8, api.TUint8, true, ref(3)); !sameError(err, rangeError()) || 100-h.Fuel() != asking {
		t.Errorf("15.4: %v", err)
	}
	// Nor is a detached buffer refused ahead of asking.
	h = asked(t, answers(num(7)))
	detach(t, h, 1)
	if err := typed.Write(h, 1, 0, api.TUint8, true, ref(3)); !sameError(err, typeError()) || 100-h.Fuel() != asking {
		t.Errorf("15.4: %v", err)
	}
}

// 15.6: Set asks whether the element is there or not; DefineOwnProperty only where it is.
func TestAskedForNothing(t *testing.T) {
	for _, k := range []string{"4", "9", "-0", "1.5", "NaN", "-1", "Infinity"} {
		times := 0
		h := asked(t, func(t *testing.T, h *heap.Heap) (api.Value, error) { times++; return num(7), nil })
		if ok, err := h.DefineOwnProperty(2, str(k), api.Desc{Value: ref(3)}); ok || err != nil || times != 0 {
			t.Errorf("15.6: Define %s: %v, %v", k, ok, err)
		}
		if ok, err := h.Set(2, str(k), ref(3), ref(6)); !ok || err != nil || times != 0 {
			t.Errorf("15.6: Set %s on another: %v, %v", k, ok, err)
		}
		if ok, err := h.Set(2, str(k), ref(3), ref(2)); !ok || err != nil || times != 1 {
			t.Errorf("15.6: Set %s: %v, %v", k, ok, err)
		}
		holds(t, h, 1, 1, 2, 3, 4, 5, 6, 7, 8)
	}
	// Of an element that is there nobody else asks.
	h := asked(t, func(t *testing.T, h *heap.Heap) (api.Value, error) { t.Error("15.6: asked"); return num(1), nil })
	if ok, err := h.Set(2, at(0), ref(3), ref(6)); !ok || err != nil {
		t.Errorf("15.6: %v, %v", ok, err)
	}
	if s, _ := h.Shape(6); !sameDesc(lying(s, at(0)), data(ref(3), "wec")) {
		t.Errorf("15.6: %v", s)
	}
	// Detached: Set asks, DefineOwnProperty does not.
	h = asked(t, answers(num(7)))
	detach(t, h, 1)
	if ok, err := h.DefineOwnProperty(2, at(0), api.Desc{Value: ref(3)}); ok || err != nil || h.Fuel() != 99 {
		t.Errorf("15.6: %v, %v", ok, err)
	}
	if ok, err := h.Set(2, at(0), ref(3), ref(2)); !ok || err != nil || h.Fuel() != 95 {
		t.Errorf("15.6: %v, %v, %d left", ok, err, h.Fuel())
	}
}

// What throws or stops ends it: the element stays, and what the object did stays done.
func TestAskedAndThrown(t *testing.T) {
	mine := &api.Thrown{Kind: api.XValue, Value: text("mine")}
	for _, c := range []struct {
		do    turn
		want  error
		spent int
	}{
		{func(*testing.T, *heap.Heap) (api.Value, error) { return api.Value{}, mine }, mine, asking},
		{func(*testing.T, *heap.Heap) (api.Value, error) { return api.Value{}, api.ErrFull }, api.ErrFull, asking},
		{answers(symbol(1)), typeError(), asking},
		{answers(ref(1)), typeError(), asking + 1}, // toString is looked for, too
	} {
		for _, a := range giving() {
			do := func(t *testing.T, h *heap.Heap) (api.Value, error) {
				typed.Lay(h, 1, 0, []byte{99, 98})
				return c.do(t, h)
			}
			h := asked(t, do)
			if ok, err := a.do(h, ref(3)); ok || !sameError(err, c.want) || 100-h.Fuel() != a.deep+c.spent {
				t.Errorf("%s: %v, %v, %d spent; want %v", a.name, ok, err, 100-h.Fuel(), c.want)
			}
			holds(t, h, 1, 99, 98, 3, 4, 5, 6, 7, 8)
		}
	}
}

// With less fuel, or less room, than it takes, it stops there, and nothing is given.
func TestAskedWithLess(t *testing.T) {
	for _, a := range giving() {
		for fuel := range a.deep + asking {
			h := asked(t, answers(num(7)))
			h.Refuel(fuel)
			before := now(h)
			if ok, err := a.do(h, ref(3)); ok || err != api.ErrFuel || h.Fuel() != 0 || !sameMoment(now(h), before) {
				t.Errorf("%s, fuel %d: %v, %v, %d left", a.name, fuel, ok, err, h.Fuel())
			}
		}
		h := asked(t, answers(num(7)))
		h.Refuel(a.deep + asking)
		if ok, err := a.do(h, ref(3)); !ok || err != nil || h.Fuel() != 0 {
			t.Errorf("%s: %v, %v", a.name, ok, err)
		}
	}
	for depth := 1; depth <= 4; depth++ {
		for _, a := range giving() {
			h := newHeap(t, 6, 100, depth)
			filled(t, h, 1, 2, 3, 4, 5, 6, 7, 8)
			over(t, h, 1, api.TUint8, 0, 4)
			made(t, h, null())
			f := addNative(t, h, func(*heap.Heap, api.Value, []api.Value) (api.Value, error) { return num(7), nil })
			define(t, h, 3, str("valueOf"), data(f, ""))
			made(t, h, null())
			made(t, h, ref(2))
			before := now(h)
			ok, err := a.do(h, ref(3))
			if depth > a.deep && (!ok || err != nil) || depth <= a.deep && (ok || err != api.ErrDepth || !sameMoment(now(h), before)) {
				t.Errorf("%s, depth %d: %v, %v", a.name, depth, ok, err)
			}
			// What is not asked takes room for the act alone.
			if ok, err := a.do(h, text("7")); depth >= a.deep && (!ok || err != nil) || depth < a.deep && (ok || err != api.ErrDepth) {
				t.Errorf("%s, depth %d: %v, %v", a.name, depth, ok, err)
			}
		}
	}
}

// The method of SymToPrimitive is asked for a number; a typed array, a buffer and a child may be asked, too.
func TestAskedHow(t *testing.T) {
	for _, v := range []api.Value{ref(1), ref(2), ref(3), ref(6)} {
		for _, a := range giving() {
			h := asked(t, answers(num(1)))
			var hints []api.Value
			f := addNative(t, h, func(_ *heap.Heap, this api.Value, given []api.Value) (api.Value, error) {
				hints = append(hints, append([]api.Value{this}, given...)...)
				return num(77), nil
			})
			define(t, h, v.Id, sym(api.SymToPrimitive), data(f, ""))
			if ok, err := a.do(h, v); !ok || err != nil || 100-h.Fuel() != a.deep+2 {
				t.Errorf("%s: %v, %v, %d spent", a.name, ok, err, 100-h.Fuel())
			}
			if !slices.Equal(hints, []api.Value{v, text("number")}) {
				t.Errorf("%s: asked with %v", a.name, hints)
			}
			holds(t, h, 1, 1, 77, 3, 4, 5, 6, 7, 8)
		}
	}
}

// A value that gives elements values while it is asked, by a body of operations: the outer one comes behind.
func TestWithinItself(t *testing.T) {
	h := newHeap(t, 4, 100, 9)
	filled(t, h, 1, 2, 3, 4)
	over(t, h, 1, api.TUint8, 0, 4)
	made(t, h, null())
	body := []api.Op{
		{Code: api.OConst, To: 0, Val: ref(2)}, {Code: api.OConst, To: 1, Val: num(50)},
		{Code: api.OSet, To: 2, A: 0, B: 1, Key: at(0)}, {Code: api.OSet, To: 3, A: 0, B: 1, Key: at(1)},
		{Code: api.OGet, To: 4, A: 0, Key: at(2)}, {Code: api.OReturn, A: 4},
	}
	f, err := call.New(h, null(), body, false)
	if err != nil {
		t.Fatal(err)
	}
	define(t, h, 3, str("valueOf"), data(ref(f), ""))
	if ok, err := h.Set(2, at(0), ref(3), ref(2)); !ok || err != nil {
		t.Errorf("15.6: %v, %v", ok, err)
	}
	holds(t, h, 1, 3, 50, 3, 4)
}

// 15.6, 9.8: with another receiver, which is typed, too, it is that one's definition that asks.
func TestReceiverDetaches(t *testing.T) {
	h := asked(t, detaches(num(7)))
	if ok, err := h.Set(2, at(1), ref(3), ref(5)); !ok || err != nil || 100-h.Fuel() != 3+asking {
		t.Errorf("15.6: %v, %v, %d spent", ok, err, 100-h.Fuel())
	}
	holds(t, h, 1)
	if !gone(h, 1) {
		t.Error("15.6: it is not detached")
	}
}
