package heap_test

import (
	"testing"

	"cameo/api"
	"cameo/heap"
)

// chain is a heap with n objects, each one the prototype of the next.
func chain(t *testing.T, n, fuel, depth int) *heap.Heap {
	t.Helper()
	h, e := heap.New(n, fuel, depth)
	if e != api.OK {
		t.Fatal(e)
	}
	for o := range n {
		proto := null()
		if o > 0 {
			proto = ref(o)
		}
		made(t, h, proto)
	}
	return h
}

// Words: a unit is spent ahead of looking how deep it is, and fuel is asked for first.
func TestFuelAndDepth(t *testing.T) {
	for _, c := range []struct {
		objects, fuel, depth, left int
		want                       error
	}{
		{1, 0, 1, 0, api.ErrFuel}, {1, 1, 1, 0, nil}, {1, 5, 1, 4, nil},
		{2, 1, 1, 0, api.ErrFuel}, {2, 2, 1, 0, api.ErrDepth}, {2, 3, 1, 1, api.ErrDepth}, {2, 2, 2, 0, nil}, {2, 1, 2, 0, api.ErrFuel},
		{3, 9, 2, 6, api.ErrDepth}, {3, 9, 3, 6, nil}, {3, 2, 2, 0, api.ErrFuel},
		{256, 300, 256, 44, nil}, {257, 300, 256, 43, api.ErrDepth}, {257, 256, 256, 0, api.ErrFuel}, {300, 1000, 256, 743, api.ErrDepth},
	} {
		h := chain(t, c.objects, 0, c.depth)
		for range 2 { // what ended by a stop was left: the next one begins anew
			h.Refuel(c.fuel)
			v, err := h.Get(c.objects, str("a"), null())
			if err != c.want || h.Fuel() != c.left || v != (api.Value{}) && v != undefined() || (v == api.Value{}) != (c.want != nil) {
				t.Errorf("Get %v: %v, %v, %d left", c, v, err, h.Fuel())
			}
			h.Refuel(c.fuel)
			if ok, err := h.HasProperty(c.objects, str("a")); ok || err != c.want || h.Fuel() != c.left {
				t.Errorf("HasProperty %v: %v, %v, %d left", c, ok, err, h.Fuel())
			}
		}
	}
}

// Words: all that is entered and not left counts, whoever called it, and functions may call on.
func TestDepthThroughFunctions(t *testing.T) {
	for _, depth := range []int{1, 2, 3, 7, 256} {
		h, _ := heap.New(3, 1000, depth)
		deepest := 0
		var self act = func(d door, f int, this api.Value, args []api.Value) (api.Value, error) {
			deepest++
			return d.Call(f, this, nil)
		}
		f := addTo(h, self, false)
		v, err := h.Call(f, null(), nil)
		if v != (api.Value{}) || err != api.ErrDepth || deepest != depth || h.Fuel() != 1000-depth-1 {
			t.Errorf("depth %d: %v, %v, %d calls, %d left", depth, v, err, deepest, h.Fuel())
		}
		deepest = 0
		h.Refuel(depth)
		if _, err := h.Call(f, null(), nil); err != api.ErrFuel || deepest != depth || h.Fuel() != 0 {
			t.Errorf("depth %d: %v, %d calls, %d left", depth, err, deepest, h.Fuel())
		}
	}
	// Calls one behind the other are no deeper than one.
	h, _ := heap.New(3, 1000, 2)
	o := made(t, h, null())
	f := addTo(h, func(d door, f int, this api.Value, args []api.Value) (api.Value, error) {
		for range 50 {
			if _, err := d.GetPrototypeOf(o); err != nil {
				return api.Value{}, err
			}
		}
		return num(1), nil
	}, false)
	if v, err := h.Call(f, null(), nil); v != num(1) || err != nil || h.Fuel() != 949 {
		t.Errorf("%v, %v, %d left", v, err, h.Fuel())
	}
}

// 7.4: what a method refuses within a function costs nothing either, and ends nothing there.
func TestRefusedWithin(t *testing.T) {
	h, _ := heap.New(3, 10, 1)
	var got error
	f := addTo(h, func(d door, f int, this api.Value, args []api.Value) (api.Value, error) {
		_, got = d.Get(3, str("a"), null())
		return num(1), nil
	}, false)
	if v, err := h.Call(f, null(), nil); v != num(1) || err != nil || got != api.ErrRef || h.Fuel() != 9 {
		t.Errorf("%v, %v, %v, %d left", v, err, got, h.Fuel())
	}
}

// Words: what had been done until it stopped, or threw, stays done; and what throws, or stops, is handed on itself.
func TestWhatStopsStaysDone(t *testing.T) {
	seven := &api.Thrown{Kind: api.XValue, Value: num(7)}
	for _, end := range []error{seven, api.ErrFull, api.ErrFuel} {
		h, _ := heap.New(3, 20, 9)
		o := made(t, h, null())
		f := addTo(h, func(d door, f int, this api.Value, args []api.Value) (api.Value, error) {
			if len(args) > 1 {
				t.Errorf("a getter or setter was called with %v", args)
			}
			d.Set(o, str("done"), num(float64(len(args))), this)
			return api.Value{}, end
		}, true)
		define(t, h, o, str("g"), api.Desc{Get: ref(f), Set: ref(f)})
		if v, err := h.Get(o, str("g"), ref(o)); v != (api.Value{}) || err != end || h.Fuel() != 15 {
			t.Errorf("Get: %v, %v, %d left", v, err, h.Fuel())
		}
		if v, err := h.Get(o, str("done"), null()); v != num(0) || err != nil {
			t.Errorf("behind Get: %v, %v", v, err)
		}
		if ok, err := h.Set(o, str("g"), num(1), ref(o)); ok || err != end || h.Fuel() != 9 {
			t.Errorf("Set: %v, %v, %d left", ok, err, h.Fuel())
		}
		if v, err := h.Get(o, str("done"), null()); v != num(1) || err != nil {
			t.Errorf("behind Set: %v, %v", v, err)
		}
	}
}

// 7.5: a method that is entered answers, throws or stops, having spent at least a unit, and fuel grows by nothing but Refuel.
func TestFuelFalls(t *testing.T) {
	for _, depth := range []int{1, 3} {
		for _, m := range methods() {
			for fuel := range 7 {
				h := fresh(t, fuel, depth)
				m.call(h, m.good)
				if h.Fuel() < 0 || h.Fuel() > max(fuel-1, 0) {
					t.Errorf("7.5: %s: %d, then %d", m.name, fuel, h.Fuel())
				}
			}
		}
	}
}

// Methods of other layers hand on as many arguments as they have: what they enter costs a unit, and is one deeper, as all that is entered.
func TestEnteredWithManyArguments(t *testing.T) {
	h, _ := heap.New(3, 10, 1)
	made(t, h, null())
	var seen []api.Value
	echo := func(d door, f int, this api.Value, args []api.Value) (api.Value, error) {
		seen = args
		return this, nil
	}
	f, c := addTo(h, echo, false), addTo(h, echo, true)
	for _, n := range []int{0, 1, api.MaxArgs, api.MaxArgs + 1, 5000} {
		args := make([]api.Value, n)
		for i := range args {
			args[i] = num(float64(i))
		}
		h.Refuel(2)
		if v, err := h.EnterCall(f, ref(1), args); v != ref(1) || err != nil || len(seen) != n || h.Fuel() != 1 {
			t.Errorf("EnterCall of %d: %v, %v, %d args, %d left", n, v, err, len(seen), h.Fuel())
		}
		if o, err := h.EnterConstruct(c, args, c); o != c || err != nil || len(seen) != n || h.Fuel() != 0 {
			t.Errorf("EnterConstruct of %d: %v, %v, %d args, %d left", n, o, err, len(seen), h.Fuel())
		}
		if v, err := h.EnterCall(f, ref(1), args); v != (api.Value{}) || err != api.ErrFuel {
			t.Errorf("EnterCall without fuel: %v, %v", v, err)
		}
		if o, err := h.EnterConstruct(c, args, c); o != 0 || err != api.ErrFuel {
			t.Errorf("EnterConstruct without fuel: %v, %v", o, err)
		}
	}
	h.Refuel(10)
	for _, o := range []int{1, 0, -1, 4, 1 << 40} {
		if v, err := h.EnterCall(o, null(), nil); v != (api.Value{}) || err != api.ErrKind || h.Fuel() != 10 {
			t.Errorf("EnterCall of %d: %v, %v, %d left", o, v, err, h.Fuel())
		}
		if n, err := h.EnterConstruct(o, nil, c); n != 0 || err != api.ErrKind || h.Fuel() != 10 {
			t.Errorf("EnterConstruct of %d: %v, %v, %d left", o, n, err, h.Fuel())
		}
	}
	if n, err := h.EnterConstruct(f, nil, c); n != 0 || err != api.ErrKind || h.Fuel() != 10 {
		t.Errorf("EnterConstruct of %d: %v, %v, %d left", f, n, err, h.Fuel())
	}
}

// What is entered so within a method is as deep as by the door.
func TestEnteredWithin(t *testing.T) {
	for _, depth := range []int{1, 2, 5} {
		h, _ := heap.New(2, 100, depth)
		calls := 0
		f := addTo(h, func(d door, f int, this api.Value, args []api.Value) (api.Value, error) {
			calls++
			if calls%2 == 0 {
				return d.(*heap.Heap).EnterCall(f, this, args)
			}
			n, err := d.(*heap.Heap).EnterConstruct(f, args, f)
			return api.Value{Kind: api.KRef, Id: n}, err
		}, true)
		if _, err := h.EnterCall(f, null(), nil); err != api.ErrDepth || calls != depth || h.Fuel() != 100-depth-1 {
			t.Errorf("depth %d: %v, %d calls, %d left", depth, err, calls, h.Fuel())
		}
	}
}
