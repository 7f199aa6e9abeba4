package call_test

// Functions in the midst of other work: getters and setters that call, throw, run out of fuel, or call themselves.

import (
	"testing"

	"cameo/api"
	"cameo/heap"
)

// gets and sets do so, and hold what comes of it, and what it costs, against what these must be.
func gets(t *testing.T, h *heap.Heap, name string, cost int, want api.Value, wrong error, o int, k api.Key) {
	t.Helper()
	was := h.Fuel()
	v, err := h.Get(o, k, ref(o))
	if v != want || !sameError(err, wrong) || was-h.Fuel() != cost {
		t.Errorf("11.3: %s: %v, %v, %d spent; want %v, %v, %d spent", name, v, err, was-h.Fuel(), want, wrong, cost)
	}
}

func sets(t *testing.T, h *heap.Heap, name string, cost int, want bool, wrong error, o int, k api.Key, v api.Value) {
	t.Helper()
	was := h.Fuel()
	ok, err := h.Set(o, k, v, ref(o))
	if ok != want || !sameError(err, wrong) || was-h.Fuel() != cost {
		t.Errorf("11.3: %s: %v, %v, %d spent; want %v, %v, %d spent", name, ok, err, was-h.Fuel(), want, wrong, cost)
	}
}

// Example 1, with each fuel: what is spent of less is all of it.
func TestExampleOfAGetter(t *testing.T) {
	for fuel := range 10 {
		h := newHeap(t, 2, 100, 10)
		o := made(t, h, null())
		f := fn(t, h, op(api.OThis), at(str("a"), op(api.OGet, 1, 0)), give(1))
		lay(t, h, o, str("a"), api.Desc{Value: num(5)})
		lay(t, h, o, str("b"), api.Desc{Get: ref(f)})
		h.Refuel(fuel)
		if fuel < 6 {
			gets(t, h, "example 1", fuel, api.Value{}, api.ErrFuel, o, str("b"))
		} else {
			gets(t, h, "example 1", 6, num(5), nil, o, str("b"))
		}
	}
}

// Example 1, with each depth: Get, Call and Get are within one another.
func TestExampleOfAGetterDeep(t *testing.T) {
	for depth := 1; depth <= 5; depth++ {
		h := newHeap(t, 2, 100, depth)
		o := made(t, h, null())
		f := fn(t, h, op(api.OThis), caught(at(str("a"), op(api.OGet, 1, 0))), give(1))
		lay(t, h, o, str("a"), api.Desc{Value: num(5)})
		lay(t, h, o, str("b"), api.Desc{Get: ref(f)})
		for range 2 {
			switch depth {
			case 1:
				gets(t, h, "example 1", 2, api.Value{}, api.ErrDepth, o, str("b"))
			case 2:
				gets(t, h, "example 1", 5, api.Value{}, api.ErrDepth, o, str("b"))
			default:
				gets(t, h, "example 1", 6, num(5), nil, o, str("b"))
			}
		}
	}
}

// Example 3.
func TestExampleOfNoArgument(t *testing.T) {
	h := newHeap(t, 3, 100, 9)
	get := at(str("x"), op(api.OGet, 1, 0))
	o := made(t, h, null())
	calls(t, h, "example 3", 1+2, api.Value{}, typeError(), fn(t, h, op(api.OArg), get), null())
	f := fn(t, h, op(api.OArg), caught(get), give(1))
	calls(t, h, "example 3", 1+3, text("TypeError"), nil, f, null())
	calls(t, h, "example 3", 1+3+1, undefined(), nil, f, null(), ref(o))
}

// Example 4: whichever comes first; and catching changes nothing.
func TestExampleOfAGetterOfItself(t *testing.T) {
	for _, catch := range []bool{false, true} {
		for fuel := range 50 {
			h := newHeap(t, 2, 100, 9)
			o := made(t, h, null())
			get := at(str("b"), op(api.OGet, 1, 0))
			get.Catch = catch
			lay(t, h, o, str("b"), api.Desc{Get: ref(fn(t, h, op(api.OThis), get, give(1)))})
			h.Refuel(fuel)
			// Get and Call, and two operations: four times. Then a Get, and a Call that is too deep.
			if fuel < 4*4+2 {
				gets(t, h, "example 4", fuel, api.Value{}, api.ErrFuel, o, str("b"))
			} else {
				gets(t, h, "example 4", 4*4+2, api.Value{}, api.ErrDepth, o, str("b"))
			}
		}
	}
}

// A getter that answers what another function does; one that makes itself a value; one that throws; one that takes itself away and throws.
func TestGetters(t *testing.T) {
	h := newHeap(t, 9, 1000, 9)
	o := made(t, h, null())
	answers := fn(t, h, op(api.OArg), give(0))
	calling := fn(t, h, op(api.OThis), constant(1, ref(answers)), op(api.OCall, 2, 1, 1, 0), give(2))
	once := fn(t, h, op(api.OThis), constant(1, num(4)), api.Op{Code: api.ODefine, To: 2, B: 1, Key: str("once"), Flag: true}, give(1))
	throws := fn(t, h, op(api.OThis), throw(0))
	leaves := fn(t, h, op(api.OThis), at(str("leaves"), op(api.ODelete, 1, 0)), throw(1))
	for k, f := range map[string]int{"calls": calling, "once": once, "throws": throws, "leaves": leaves} {
		lay(t, h, o, str(k), api.Desc{Get: ref(f), Configurable: api.Yes})
	}
	heir := made(t, h, ref(o))
	gets(t, h, "calls", 2+4+3, ref(o), nil, o, str("calls"))
	gets(t, h, "calls, of an heir", 3+4+3, ref(heir), nil, heir, str("calls"))
	gets(t, h, "once, of an heir", 3+4+1, num(4), nil, heir, str("once"))
	gets(t, h, "once, of an heir, again", 1, num(4), nil, heir, str("once"))
	gets(t, h, "once", 2+4+1, num(4), nil, o, str("once"))
	gets(t, h, "once, again", 1, num(4), nil, o, str("once"))
	gets(t, h, "throws", 2+2, api.Value{}, thrown(ref(o)), o, str("throws"))
	gets(t, h, "leaves", 2+3+1, api.Value{}, thrown(yes()), o, str("leaves"))
	gets(t, h, "leaves, again", 1, undefined(), nil, o, str("leaves"))
}

// A setter is given the value; what it answers does not count; what it throws or stops does.
func TestSetters(t *testing.T) {
	h := newHeap(t, 9, 1000, 9)
	o := made(t, h, null())
	keeps := fn(t, h, op(api.OThis), op(api.OArg, 1), at(str("kept"), op(api.OSet, 2, 0, 1)), op(api.OArg, 3, 1), at(str("more"), op(api.OSet, 2, 0, 3)), constant(4, no()), give(4))
	throws := fn(t, h, op(api.OArg), throw(0))
	again := fn(t, h, op(api.OThis), op(api.OArg, 1), caught(at(str("again"), op(api.OSet, 2, 0, 1))))
	for k, f := range map[string]int{"keeps": keeps, "throws": throws, "again": again} {
		lay(t, h, o, str(k), api.Desc{Set: ref(f)})
	}
	sets(t, h, "keeps", 2+7+3+3, true, nil, o, str("keeps"), text("x"))
	gets(t, h, "kept", 1, text("x"), nil, o, str("kept"))
	gets(t, h, "more", 1, undefined(), nil, o, str("more"))
	sets(t, h, "throws", 2+2, false, thrown(text("y")), o, str("throws"), text("y"))
	sets(t, h, "again", 4*5+2, false, api.ErrDepth, o, str("again"), num(1))
	h.Refuel(15)
	sets(t, h, "again", 15, false, api.ErrFuel, o, str("again"), num(1))
	h.Refuel(8)
	sets(t, h, "keeps, with fuel for what it does first", 8, false, api.ErrFuel, o, str("keeps"), text("z"))
	h.Refuel(9)
	gets(t, h, "kept", 1, text("z"), nil, o, str("kept"))
}

// Functions that call one another in a ring, and themselves by what they are given; they end by depth, or by fuel.
func TestRings(t *testing.T) {
	h := newHeap(t, 9, 1000, 6)
	to := made(t, h, null())
	var ring []int
	for range 2 {
		ring = append(ring, fn(t, h, constant(0, ref(to)), op(api.OSelf, 1), op(api.OGetBy, 2, 0, 3), caught(op(api.OCall, 3, 2, 1, 1)), give(3)))
	}
	lay(t, h, to, str("undefined"), open(ref(ring[0])))
	// The sixth is as deep as may be: its Get is too deep.
	calls(t, h, "a ring", 5*(1+4+1)+(1+3+1), api.Value{}, api.ErrDepth, ring[1], null())
	count := fn(t, h, op(api.OArg), op(api.OSkip, 0, 0, 4), op(api.OSelf, 1), at(str("next"), op(api.OGet, 2, 0)), op(api.OCall, 3, 1, 2, 2), give(3), constant(4, text("end")), give(4))
	last := made(t, h, null())
	first := made(t, h, null())
	lay(t, h, first, str("next"), open(ref(last)))
	calls(t, h, "down to the end", 2*(1+6+1)+(1+4), text("end"), nil, count, null(), ref(first))
}
