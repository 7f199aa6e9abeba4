package integrity_test

// The chapter's examples, and that of the whole.

import (
	"testing"

	"cameo/api"
	"cameo/array"
	"cameo/heap"
)

// two is a heap whose object 1 has a, data, and an accessor b, both as open as can be.
func two(t *testing.T, fuel int) *heap.Heap {
	t.Helper()
	h := newHeap(t, 1, fuel, 1)
	object(t, h, null(), has("a", num(1)), is("b", accessor(undefined(), undefined(), "ec")))
	return h
}

func TestExample1(t *testing.T) {
	h := two(t, 10)
	freeze(1).is(t, h, 6, true, nil)
	looks(t, h, 1, api.Shape{Class: api.COrdinary, Proto: null(), Props: []api.Prop{is("a", data(num(1), "e")), is("b", accessor(undefined(), undefined(), "e"))}})
	isFrozen(1).is(t, h, 4, true, nil)
}

func TestExample2(t *testing.T) {
	h := two(t, 4)
	freeze(1).is(t, h, 4, nil, api.ErrFuel)
	looks(t, h, 1, api.Shape{Class: api.COrdinary, Proto: null(), Props: []api.Prop{is("a", data(num(1), "e")), is("b", accessor(undefined(), undefined(), "ec"))}})
}

func TestExample3(t *testing.T) {
	h := newHeap(t, 1, 100, 9)
	for _, level := range levels() {
		fixing(num(5), level).is(t, h, 0, num(5), nil)
		fixedness(num(5), level).is(t, h, 0, true, nil)
	}
	n, err := array.Of(h, null(), []api.Value{num(7), num(8)})
	o := made(t, n, err)
	freeze(o).is(t, h, 2+3*2, true, nil)
	looks(t, h, o, api.Shape{Class: api.CArray, Proto: null(), Props: []api.Prop{is("length", data(num(2), "")), is("0", data(num(7), "e")), is("1", data(num(8), "e"))}})
	sets(o, str("0"), num(1), ref(o)).is(t, h, 1, false, nil)
	sets(o, str("length"), num(0), ref(o)).is(t, h, 1, false, nil)
}

func TestExample4(t *testing.T) {
	h := newHeap(t, 2, 100, 9)
	object(t, h, null(), has("self", ref(1)))
	object(t, h, null())
	harden(ref(1)).is(t, h, 4+1+1+1, []int{1}, nil)
	looks(t, h, 1, api.Shape{Class: api.COrdinary, Proto: null(), Props: []api.Prop{is("self", data(ref(1), "e"))}})
	looks(t, h, 2, api.Shape{Class: api.COrdinary, Proto: null(), Extensible: true})
}

// Example 6 of the whole: two properties of data.
func TestExampleOfTheWhole(t *testing.T) {
	for fuel := range 8 {
		h := newHeap(t, 1, fuel, 1)
		object(t, h, null(), has("a", num(1)), has("b", num(2)))
		x := freeze(1)
		if fuel < 6 {
			x.is(t, h, fuel, nil, api.ErrFuel)
		} else {
			x.is(t, h, 6, true, nil)
		}
		s := shapeOf(t, h, 1)
		a, b := data(num(1), "wec"), data(num(2), "wec")
		if fuel >= 4 {
			a = data(num(1), "e")
		}
		if fuel >= 6 {
			b = data(num(2), "e")
		}
		if s.Extensible != (fuel == 0) || !sameDesc(s.Props[0].Desc, a) || !sameDesc(s.Props[1].Desc, b) {
			t.Errorf("with fuel %d: %v", fuel, s)
		}
	}
}
