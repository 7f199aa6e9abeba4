package array_test

// 14.2: a Value that is an object is asked twice, and may do anything meanwhile.

import (
	"slices"
	"testing"

	"cameo/api"
	"cameo/heap"
)

// asked is a heap with the objects 1 (an array of 1 to 4), 2 (an object that is asked by valueOf) and 3 (its valueOf): turns is what that does, one time after the other.
func asked(t *testing.T, turns ...func(h *heap.Heap) (api.Value, error)) *heap.Heap {
	t.Helper()
	h := newHeap(t, 9, 100, 9)
	listed(t, h, numbers(4)...)
	made(t, h, null())
	n := 0
	f := addNative(t, h, func(h *heap.Heap, this api.Value, given []api.Value) (api.Value, error) {
		if this != ref(2) || len(given) != 0 || n == len(turns) {
			t.Errorf("14.2: asked for the time %d, with %v and %v", n+1, this, given)
			return num(0), nil
		}
		n++
		return turns[n-1](h)
	})
	define(t, h, 2, str("valueOf"), data(f, ""))
	return h
}

// answers is a turn that answers, and does nothing.
func answers(v api.Value) func(h *heap.Heap) (api.Value, error) {
	return func(*heap.Heap) (api.Value, error) { return v, nil }
}

// twice is what asking an object by valueOf twice costs, with the definition itself: Get of the symbol, of valueOf, and Call, each time.
const twice = 1 + 2*3

// 14.2: what both answers come to.
func TestAskedTwice(t *testing.T) {
	for _, c := range []struct {
		first, second api.Value
		want          error
		length        uint32
	}{
		{num(2), num(2), nil, 2},
		{num(7), num(7), nil, 7},
		{num(0), num(below0), nil, 0},
		{num(below0), num(0), nil, 0},
		{text("2"), num(2), nil, 2},
		{yes(), text(" 1 "), nil, 1},
		{null(), no(), nil, 0},
		{num(4294967298), num(2), nil, 2}, // the first is taken by its last 32 bits, the second is held against that
		{num(-4294967295), yes(), nil, 1},
		{num(2.9), num(2), nil, 2},
		{num(nan), num(0), nil, 0},
		{num(endless), null(), nil, 0},
		{undefined(), no(), nil, 0},
		{num(-1), num(4294967295), nil, 4294967295},
		{num(2), num(3), rangeError(), 4},
		{num(2), num(2.9), rangeError(), 4},
		{num(2), num(4294967298), rangeError(), 4},
		{num(4294967295), num(-1), rangeError(), 4},
		{num(0), undefined(), rangeError(), 4},
		{num(0), num(nan), rangeError(), 4},
		{num(4), text("x"), rangeError(), 4},
		{num(2), symbol(1), typeError(), 4},
	} {
		h := asked(t, answers(c.first), answers(c.second))
		ok, err := h.DefineOwnProperty(1, str("length"), api.Desc{Value: ref(2)})
		if ok != (c.want == nil) || !sameError(err, c.want) || h.Fuel() != 100-twice {
			t.Errorf("14.2: %v, %v: %v, %v, %d left", c.first, c.second, ok, err, h.Fuel())
		}
		long(t, h, 1, c.length)
		lies(t, h, 1, str("length"), data(num(float64(c.length)), "w"))
	}
}

// 14.2: what is thrown the first time ends it, ahead of the second; what the object did stays done.
func TestAskedAndThrown(t *testing.T) {
	mine := &api.Thrown{Kind: api.XValue, Value: text("mine")}
	throw := func(h *heap.Heap) (api.Value, error) {
		define(t, h, 1, at(9), data(num(9), "wec"))
		return api.Value{}, mine
	}
	stop := func(h *heap.Heap) (api.Value, error) { return api.Value{}, api.ErrFull }
	for _, c := range []struct {
		turns  []func(h *heap.Heap) (api.Value, error)
		want   error
		spent  int
		length uint32
	}{
		{[]func(h *heap.Heap) (api.Value, error){throw}, mine, 4, 10},
		{[]func(h *heap.Heap) (api.Value, error){answers(num(2)), throw}, mine, 7, 10},
		{[]func(h *heap.Heap) (api.Value, error){stop}, api.ErrFull, 4, 4},
		{[]func(h *heap.Heap) (api.Value, error){answers(num(2)), stop}, api.ErrFull, 7, 4},
		{[]func(h *heap.Heap) (api.Value, error){answers(symbol(1))}, typeError(), 4, 4},
		{[]func(h *heap.Heap) (api.Value, error){answers(ref(1))}, typeError(), 5, 4}, // toString is looked for, too
		{[]func(h *heap.Heap) (api.Value, error){answers(num(2)), answers(ref(1))}, typeError(), 8, 4},
	} {
		h := asked(t, c.turns...)
		ok, err := h.DefineOwnProperty(1, str("length"), api.Desc{Value: ref(2), Writable: api.No})
		if ok || !sameError(err, c.want) || 100-h.Fuel() != c.spent {
			t.Errorf("14.2: %v, %v, %d spent; want %v, %d", ok, err, 100-h.Fuel(), c.want, c.spent)
		}
		long(t, h, 1, c.length)
	}
}

// 14.2: with less fuel, or less room, than it takes, it stops there, and the array is as it was.
func TestAskedWithLess(t *testing.T) {
	for fuel := range twice {
		h := asked(t, answers(num(2)), answers(num(2)))
		h.Refuel(fuel)
		before := h.Shapes()
		if ok, err := h.DefineOwnProperty(1, str("length"), api.Desc{Value: ref(2)}); ok || err != api.ErrFuel || h.Fuel() != 0 || !sameShapes(h.Shapes(), before) {
			t.Errorf("14.2: fuel %d: %v, %v, %d left", fuel, ok, err, h.Fuel())
		}
	}
	h := newHeap(t, 3, 100, 1)
	listed(t, h, numbers(4)...)
	made(t, h, null())
	before := h.Shapes()
	if ok, err := h.DefineOwnProperty(1, str("length"), api.Desc{Value: ref(2)}); ok || err != api.ErrDepth || h.Fuel() != 98 || !sameShapes(h.Shapes(), before) {
		t.Errorf("14.2: %v, %v, %d left", ok, err, h.Fuel())
	}
	// A definition by a number, or without a Value, takes room for itself alone.
	defines(t, h, 1, str("length"), api.Desc{Value: text("2")}, true)
	defines(t, h, 1, str("length"), api.Desc{Writable: api.No}, true)
	holds(t, h, 1, numbers(2)...)
}

// 14.2: the method of SymToPrimitive is asked for a number, both times, and so is an array of itself.
func TestAskedHow(t *testing.T) {
	h := newHeap(t, 4, 100, 9)
	listed(t, h, numbers(4)...)
	var hints []api.Value
	f := addNative(t, h, func(_ *heap.Heap, this api.Value, given []api.Value) (api.Value, error) {
		hints = append(hints, append([]api.Value{this}, given...)...)
		return num(3), nil
	})
	define(t, h, 1, sym(api.SymToPrimitive), data(f, ""))
	yieldsTrue(t, h, 1+2*2, func() (bool, error) { return h.DefineOwnProperty(1, str("length"), api.Desc{Value: ref(1)}) })
	if !slices.Equal(hints, []api.Value{ref(1), text("number"), ref(1), text("number")}) {
		t.Errorf("14.2: asked with %v", hints)
	}
	holds(t, h, 1, numbers(3)...)
	// An object that is none to be asked.
	made(t, h, null())
	throws(t, h, 1, str("length"), api.Desc{Value: ref(3)}, typeError())
}

func yieldsTrue(t *testing.T, h *heap.Heap, cost int, act func() (bool, error)) {
	t.Helper()
	fuel := h.Fuel()
	if ok, err := act(); !ok || err != nil || fuel-h.Fuel() != cost {
		t.Errorf("%v, %v, %d spent; want %d", ok, err, fuel-h.Fuel(), cost)
	}
}

// 14.2: what follows looks at the array as it is once both have answered.
func TestChangedMeanwhile(t *testing.T) {
	length := func(n float64, w api.Tri) func(t *testing.T, h *heap.Heap) {
		return func(t *testing.T, h *heap.Heap) {
			define(t, h, 1, str("length"), api.Desc{Value: num(n), Writable: w})
		}
	}
	element := func(i int, flags string) func(t *testing.T, h *heap.Heap) {
		return func(t *testing.T, h *heap.Heap) { define(t, h, 1, at(i), data(num(float64(i+1)), flags)) }
	}
	for name, c := range map[string]struct {
		act      func(t *testing.T, h *heap.Heap)
		n        float64
		writable api.Tri
		want     bool
		flags    string
		left     []api.Value
	}{
		"made shorter than it becomes":          {length(1, api.Absent), 2, api.Absent, true, "w", append(numbers(1), api.Value{})},
		"made shorter, and greater again":       {length(0, api.Absent), 6, api.Absent, true, "w", make([]api.Value, 6)},
		"made as long":                          {length(2, api.Absent), 2, api.No, true, "", numbers(2)},
		"made longer":                           {element(6, "wec"), 5, api.Absent, true, "w", append(numbers(4), api.Value{})},
		"given an element that stays":           {element(4, "we"), 1, api.Absent, false, "w", numbers(5)},
		"given an element that stays, and shut": {element(4, "we"), 1, api.No, false, "", numbers(5)},
		"an element fixed":                      {element(2, "we"), 0, api.Absent, false, "w", numbers(3)},
		"read-only":                             {length(4, api.No), 2, api.Absent, false, "", numbers(4)},
		"read-only, and the same":               {length(4, api.No), 4, api.Absent, true, "", numbers(4)},
		"read-only, and greater":                {length(4, api.No), 5, api.Absent, false, "", numbers(4)},
		"read-only and shorter, the same then":  {length(2, api.No), 2, api.Absent, true, "", numbers(2)},
		"read-only and shorter, less then":      {length(2, api.No), 1, api.No, false, "", numbers(2)},
		"not extensible":                        {func(t *testing.T, h *heap.Heap) { shut(t, h, 1) }, 1, api.Absent, true, "w", numbers(1)},
	} {
		act := func(h *heap.Heap) (api.Value, error) { c.act(t, h); return num(c.n), nil }
		for _, turns := range [][]func(h *heap.Heap) (api.Value, error){{act, answers(num(c.n))}, {answers(num(c.n)), act}} {
			h := asked(t, turns...)
			if ok, err := h.DefineOwnProperty(1, str("length"), api.Desc{Value: ref(2), Writable: c.writable}); ok != c.want || err != nil || h.Fuel() != 100-twice {
				t.Errorf("14.2: %s: %v, %v, %d left", name, ok, err, h.Fuel())
			}
			lies(t, h, 1, str("length"), data(num(float64(len(c.left))), c.flags))
			holds(t, h, 1, c.left...)
		}
	}
}

// 14.2: a length that is defined while it is being defined: the inner one is through, and the outer one goes on.
func TestWithinItself(t *testing.T) {
	inner := func(h *heap.Heap) (api.Value, error) {
		ok, err := h.DefineOwnProperty(1, str("length"), api.Desc{Value: ref(2)})
		if !ok || err != nil {
			t.Errorf("14.2: within: %v, %v", ok, err)
		}
		return num(3), nil
	}
	// Of the outer one's two questions the first asks twice more.
	h := asked(t, inner, answers(num(1)), answers(num(1)), answers(num(3)))
	yieldsTrue(t, h, twice+twice, func() (bool, error) { return h.DefineOwnProperty(1, str("length"), api.Desc{Value: ref(2)}) })
	holds(t, h, 1, num(1), api.Value{}, api.Value{})
}
