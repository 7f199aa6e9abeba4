package array_test

// Each of the thirteen methods of an array, with the array itself and others as the receiver, with objects whose prototype is an array, and with each fuel and depth.

import (
	"slices"
	"testing"

	"cameo/api"
	"cameo/heap"
)

// world is a heap with the objects 1 (ordinary, empty), 2 (an array of 1, 2, 3), 3 (ordinary, of 2), 4 (an array of 10), 5 (an array of 20, whose length is read-only), 6 (ordinary, with 0, 7 and length as 30, 40 and 50), 7 (an array of 70, of 2).
func world(t *testing.T) *heap.Heap {
	t.Helper()
	h := newHeap(t, 12, 100, 9)
	made(t, h, null())
	listed(t, h, numbers(3)...)
	made(t, h, ref(2))
	listed(t, h, num(10))
	listed(t, h, num(20))
	fix(t, h, 5)
	made(t, h, null())
	define(t, h, 6, at(0), data(num(30), "wec"))
	define(t, h, 6, at(7), data(num(40), "wec"))
	define(t, h, 6, str("length"), data(num(50), "wec"))
	listed(t, h, num(70))
	free(t, h, func() (bool, error) { return h.SetPrototypeOf(7, ref(2)) })
	return h
}

// outcome is what an act must come to: its answer or what it throws, its cost, how deep it goes, and what it changes.
type outcome struct {
	answer     any
	thrown     error
	cost, deep int
	end        func(l []api.Shape)
}

// plays holds an act against its outcome, with each fuel up to what it needs, and more, and with each depth.
func plays(t *testing.T, name string, build func(t *testing.T) *heap.Heap, want outcome, act func(h *heap.Heap) (any, error)) {
	t.Helper()
	for fuel := range want.cost + 3 {
		h := build(t)
		h.Refuel(fuel)
		ends(t, name, h, want, fuel, act)
	}
	for room := 1; room <= want.deep; room++ {
		shallow(t, name, build(t), want, room, act)
	}
}

// ends makes an act, and holds what it came to against its outcome, or a stop for fuel.
func ends(t *testing.T, name string, h *heap.Heap, want outcome, fuel int, act func(h *heap.Heap) (any, error)) {
	t.Helper()
	l, answer, stop, rest := h.Shapes(), want.answer, want.thrown, fuel-want.cost
	if fuel < want.cost {
		stop, rest, answer = api.ErrFuel, 0, nothing(want.answer)
	} else if want.end != nil {
		want.end(l)
	}
	if got, err := act(h); !sameAnswer(got, answer) || !sameError(err, stop) || h.Fuel() != rest {
		t.Errorf("%s, fuel %d: %v, %v, %d left; want %v, %v, %d left", name, fuel, got, err, h.Fuel(), answer, stop, rest)
	}
	if got := h.Shapes(); !sameShapes(got, l) {
		t.Errorf("%s, fuel %d: left %v; want %v", name, fuel, got, l)
	}
}

func sameAnswer(a, b any) bool {
	v, ok := a.(api.Value)
	w, too := b.(api.Value)
	return ok && too && sameValue(v, w) || !ok && !too && a == b
}

func nothing(answer any) any {
	if _, ok := answer.(bool); ok {
		return false
	}
	return api.Value{}
}

// shallow makes an act within functions that call one another, so that there is no more room than that.
func shallow(t *testing.T, name string, h *heap.Heap, want outcome, room int, act func(h *heap.Heap) (any, error)) {
	t.Helper()
	h.Refuel(1000)
	left := 9 - room
	var f api.Value
	f = addNative(t, h, func(h *heap.Heap, this api.Value, given []api.Value) (api.Value, error) {
		if left--; left > 0 {
			return h.Call(f.Id, this, given)
		}
		if room >= want.deep {
			h.Refuel(want.cost)
			ends(t, name, h, want, want.cost, act)
			return null(), nil
		}
		l := h.Shapes()
		if got, err := act(h); got != nothing(want.answer) || err != api.ErrDepth {
			t.Errorf("%s, room %d: %v, %v", name, room, got, err)
		}
		if got := h.Shapes(); !sameShapes(got, l) {
			t.Errorf("%s, room %d: left %v; want %v", name, room, got, l)
		}
		return null(), nil
	})
	if _, err := h.Call(f.Id, null(), nil); err != nil {
		t.Fatal(err)
	}
}

func getting(o int, k api.Key, receiver api.Value) func(h *heap.Heap) (any, error) {
	return func(h *heap.Heap) (any, error) { return h.Get(o, k, receiver) }
}

func setting(o int, k api.Key, v, receiver api.Value) func(h *heap.Heap) (any, error) {
	return func(h *heap.Heap) (any, error) { return h.Set(o, k, v, receiver) }
}

func deleting(o int, k api.Key) func(h *heap.Heap) (any, error) {
	return func(h *heap.Heap) (any, error) { return h.Delete(o, k) }
}

func defining(o int, k api.Key, d api.Desc) func(h *heap.Heap) (any, error) {
	return func(h *heap.Heap) (any, error) { return h.DefineOwnProperty(o, k, d) }
}

// puts is that an object has data that anybody may change; lengthens is that it has, and that it is so long then.
func puts(o int, k api.Key, v api.Value) func(l []api.Shape) {
	return func(l []api.Shape) { put(&l[o-1], k, data(v, "wec")) }
}

func lengthens(o int, k api.Key, v api.Value, length float64) func(l []api.Shape) {
	return func(l []api.Shape) {
		put(&l[o-1], k, data(v, "wec"))
		put(&l[o-1], str("length"), data(num(length), "w"))
	}
}

// shortens is that an array is so long, and some elements are gone.
func shortens(o int, length float64, keys ...string) func(l []api.Shape) {
	return func(l []api.Shape) {
		gone(&l[o-1], keys...)
		put(&l[o-1], str("length"), data(num(length), "w"))
	}
}

func TestGet(t *testing.T) {
	for _, receiver := range append(plain(), ref(1), ref(2), ref(3), ref(4)) {
		for k, want := range map[string]api.Value{"0": num(1), "1": num(2), "2": num(3), "3": undefined(), "length": num(3), "a": undefined(), "00": undefined(), "4294967295": undefined()} {
			plays(t, "Get "+k, world, outcome{answer: want, cost: 1, deep: 1}, getting(2, str(k), receiver))
			plays(t, "Get "+k+" by a prototype", world, outcome{answer: want, cost: 2, deep: 2}, getting(3, str(k), receiver))
		}
		plays(t, "Get of an array of an array", world, outcome{answer: num(70), cost: 1, deep: 1}, getting(7, at(0), receiver))
		plays(t, "Get of an array of an array", world, outcome{answer: num(1), cost: 1, deep: 1}, getting(7, str("length"), receiver))
		plays(t, "Get of an array of an array", world, outcome{answer: num(2), cost: 2, deep: 2}, getting(7, at(1), receiver))
	}
}

// A getter at an index is called with the receiver; a setter, too, and the length stays.
func TestAccessors(t *testing.T) {
	build := func(t *testing.T) *heap.Heap {
		h := world(t)
		get := fn(t, h, api.Op{Code: api.OThis}, api.Op{Code: api.OReturn})
		set := fn(t, h, api.Op{Code: api.OArg}, api.Op{Code: api.OThis, To: 1}, api.Op{Code: api.ODefine, To: 2, A: 1, B: 0, Key: str("seen"), Desc: api.Desc{Configurable: api.Yes}, Flag: true})
		define(t, h, 2, at(1), accessor(get, set, "ec"))
		define(t, h, 2, at(5), accessor(undefined(), undefined(), "ec"))
		return h
	}
	for o, more := range map[int]int{2: 0, 3: 1} {
		plays(t, "a getter", build, outcome{answer: ref(4), cost: 4 + more, deep: 2 + more}, getting(o, at(1), ref(4)))
		plays(t, "no getter", build, outcome{answer: undefined(), cost: 1 + more, deep: 1 + more}, getting(o, at(5), ref(4)))
		plays(t, "no setter", build, outcome{answer: false, cost: 1 + more, deep: 1 + more}, setting(o, at(5), num(1), ref(4)))
		for _, to := range []int{1, 2, 4} {
			h := build(t)
			h.Refuel(6 + more)
			want := h.Shapes()
			put(&want[to-1], str("seen"), data(text("v"), "c"))
			if ok, err := h.Set(o, at(1), text("v"), ref(to)); !ok || err != nil || h.Fuel() != 0 {
				t.Errorf("a setter: %v, %v, %d left", ok, err, h.Fuel())
			}
			if got := h.Shapes(); !sameShapes(got, want) {
				t.Errorf("a setter: left %v, want %v", got, want)
			}
		}
	}
}

func TestSetOnItself(t *testing.T) {
	for _, v := range append(plain(), ref(1), ref(2)) {
		for i := range 3 {
			plays(t, "Set", world, outcome{answer: true, cost: 3, deep: 2, end: puts(2, at(i), v)}, setting(2, at(i), v, ref(2)))
		}
		plays(t, "Set of the next one", world, outcome{answer: true, cost: 3, deep: 2, end: lengthens(2, at(3), v, 4)}, setting(2, at(3), v, ref(2)))
		plays(t, "Set of one far away", world, outcome{answer: true, cost: 3, deep: 2, end: lengthens(2, at(4294967294), v, 4294967295)}, setting(2, at(4294967294), v, ref(2)))
		for _, k := range noIndices() {
			plays(t, "Set of no index", world, outcome{answer: true, cost: 3, deep: 2, end: puts(2, k, v)}, setting(2, k, v, ref(2)))
		}
	}
	for n, keys := range [][]string{{"0", "1", "2"}, {"1", "2"}, {"2"}, nil, nil} {
		plays(t, "Set of length", world, outcome{answer: true, cost: 3, deep: 2, end: shortens(2, float64(n), keys...)}, setting(2, str("length"), num(float64(n)), ref(2)))
	}
	plays(t, "Set of length, wrong", world, outcome{answer: false, thrown: rangeError(), cost: 3, deep: 2}, setting(2, str("length"), num(1.5), ref(2)))
	plays(t, "Set of length, wrong", world, outcome{answer: false, thrown: typeError(), cost: 3, deep: 2}, setting(2, str("length"), symbol(1), ref(2)))
	// An object that cannot be asked is asked for its symbol, valueOf and toString.
	plays(t, "Set of length, an object", world, outcome{answer: false, thrown: typeError(), cost: 6, deep: 3}, setting(2, str("length"), ref(1), ref(2)))
	plays(t, "Set of what is read-only", world, outcome{answer: false, cost: 1, deep: 1}, setting(5, str("length"), num(0), ref(5)))
	plays(t, "Set of what is read-only, though wrong", world, outcome{answer: false, cost: 1, deep: 1}, setting(5, str("length"), num(1.5), ref(5)))
	plays(t, "Set behind what is read-only", world, outcome{answer: false, cost: 3, deep: 2}, setting(5, at(1), num(1), ref(5)))
	plays(t, "Set below what is read-only", world, outcome{answer: true, cost: 3, deep: 2, end: puts(5, at(0), num(1))}, setting(5, at(0), num(1), ref(5)))
	plays(t, "Set of an array of an array", world, outcome{answer: true, cost: 4, deep: 3, end: lengthens(7, at(1), num(7), 2)}, setting(7, at(1), num(7), ref(7)))
	plays(t, "Set of an array of an array", world, outcome{answer: true, cost: 4, deep: 3, end: lengthens(7, at(8), num(7), 9)}, setting(7, at(8), num(7), ref(7)))
	plays(t, "Set of an array of an array", world, outcome{answer: true, cost: 3, deep: 2, end: shortens(7, 0, "0")}, setting(7, str("length"), num(0), ref(7)))
}

// With another receiver it is that one's methods that define: the array stays as it is.
func TestSetOnAnother(t *testing.T) {
	v := num(7)
	for _, o := range []int{2, 3} { // itself, and by a prototype
		more := o - 2
		to := func(end func(l []api.Shape)) outcome {
			return outcome{answer: true, cost: 3 + more, deep: 2 + more, end: end}
		}
		for _, i := range []int{0, 2, 7} { // two that it has, and one that it has not
			plays(t, "an empty receiver", world, to(puts(1, at(i), v)), setting(o, at(i), v, ref(1)))
			plays(t, "a child as the receiver", world, to(puts(3, at(i), v)), setting(o, at(i), v, ref(3)))
			plays(t, "a receiver that has some", world, to(puts(6, at(i), v)), setting(o, at(i), v, ref(6)))
			plays(t, "an array as the receiver", world, to(lengthens(4, at(i), v, float64(i+1))), setting(o, at(i), v, ref(4)))
			plays(t, "an array of it as the receiver", world, to(lengthens(7, at(i), v, float64(i+1))), setting(o, at(i), v, ref(7)))
		}
		plays(t, "an array whose length is read-only", world, to(puts(5, at(0), v)), setting(o, at(0), v, ref(5)))
		plays(t, "an array whose length is read-only", world, outcome{answer: false, cost: 3 + more, deep: 2 + more}, setting(o, at(2), v, ref(5)))
		for _, k := range []api.Key{at(0), at(9), str("length")} {
			for _, receiver := range plain() {
				plays(t, "no object", world, outcome{answer: false, cost: 1 + more, deep: 1 + more}, setting(o, k, v, receiver))
			}
		}
		length := str("length")
		plays(t, "length on an empty receiver", world, to(puts(1, length, num(1.5))), setting(o, length, num(1.5), ref(1)))
		plays(t, "length on a receiver that has one", world, to(puts(6, length, text("x"))), setting(o, length, text("x"), ref(6)))
		plays(t, "length on a child", world, to(puts(3, length, v)), setting(o, length, v, ref(3)))
		plays(t, "length on an array", world, to(shortens(4, 0, "0")), setting(o, length, num(0), ref(4)))
		plays(t, "length on an array", world, to(shortens(4, 9)), setting(o, length, num(9), ref(4)))
		plays(t, "length on an array, wrong", world, outcome{answer: false, thrown: rangeError(), cost: 3 + more, deep: 2 + more}, setting(o, length, num(-1), ref(4)))
		plays(t, "length on an array, read-only", world, outcome{answer: false, cost: 2 + more, deep: 2 + more}, setting(o, length, num(0), ref(5)))
	}
	// By an ordinary object on an array.
	plays(t, "by one that has it", world, outcome{answer: true, cost: 3, deep: 2, end: lengthens(2, at(7), v, 8)}, setting(6, at(7), v, ref(2)))
	plays(t, "by one that has none", world, outcome{answer: true, cost: 3, deep: 2, end: lengthens(2, at(3), v, 4)}, setting(1, at(3), v, ref(2)))
	plays(t, "by one that has a length", world, outcome{answer: true, cost: 3, deep: 2, end: shortens(2, 1, "1", "2")}, setting(6, str("length"), num(1), ref(2)))
	plays(t, "by one that has no length", world, outcome{answer: true, cost: 3, deep: 2, end: shortens(2, 1, "1", "2")}, setting(1, str("length"), text("1"), ref(2)))
	// What is read-only in a prototype stands between.
	plays(t, "read-only ahead of it", world, outcome{answer: false, cost: 1, deep: 1}, setting(5, str("length"), num(0), ref(2)))
}

func TestDelete(t *testing.T) {
	for _, o := range []int{2, 4} {
		plays(t, "Delete 0", world, outcome{answer: true, cost: 1, deep: 1, end: func(l []api.Shape) { gone(&l[o-1], "0") }}, deleting(o, at(0)))
		plays(t, "Delete length", world, outcome{answer: false, cost: 1, deep: 1}, deleting(o, str("length")))
	}
	plays(t, "Delete the last one", world, outcome{answer: true, cost: 1, deep: 1, end: func(l []api.Shape) { gone(&l[1], "2") }}, deleting(2, at(2)))
	plays(t, "Delete of a read-only length's", world, outcome{answer: true, cost: 1, deep: 1, end: func(l []api.Shape) { gone(&l[4], "0") }}, deleting(5, at(0)))
	for _, k := range append(noIndices(), at(3), at(4294967294)) {
		plays(t, "Delete of none", world, outcome{answer: true, cost: 1, deep: 1}, deleting(2, k))
	}
	fixed := func(t *testing.T) *heap.Heap {
		h := world(t)
		define(t, h, 2, at(1), api.Desc{Configurable: api.No})
		return h
	}
	plays(t, "Delete of what is fixed", fixed, outcome{answer: false, cost: 1, deep: 1}, deleting(2, at(1)))
	plays(t, "Delete of a child", world, outcome{answer: true, cost: 1, deep: 1}, deleting(3, at(0)))
	plays(t, "Delete of a child", world, outcome{answer: true, cost: 1, deep: 1}, deleting(3, str("length")))
}

// A definition enters nothing but itself, whatever it takes away; an object whose prototype is an array is none.
func TestDefineCosts(t *testing.T) {
	open := data(num(7), "wec")
	for name, c := range map[string]struct {
		want outcome
		act  func(h *heap.Heap) (any, error)
	}{
		"the next one":         {outcome{answer: true, cost: 1, deep: 1, end: lengthens(2, at(3), num(7), 4)}, defining(2, at(3), open)},
		"shorter":              {outcome{answer: true, cost: 1, deep: 1, end: shortens(2, 0, "0", "1", "2")}, defining(2, str("length"), api.Desc{Value: null()})},
		"longer":               {outcome{answer: true, cost: 1, deep: 1, end: shortens(2, 1000)}, defining(2, str("length"), api.Desc{Value: num(1000)})},
		"wrong":                {outcome{answer: false, thrown: rangeError(), cost: 1, deep: 1}, defining(2, str("length"), api.Desc{Value: num(0.5)})},
		"a symbol":             {outcome{answer: false, thrown: typeError(), cost: 1, deep: 1}, defining(2, str("length"), api.Desc{Value: symbol(3)})},
		"a child's length":     {outcome{answer: true, cost: 1, deep: 1, end: puts(3, str("length"), num(7))}, defining(3, str("length"), open)},
		"a child's element":    {outcome{answer: true, cost: 1, deep: 1, end: puts(3, at(9), num(7))}, defining(3, at(9), open)},
		"an array's array":     {outcome{answer: true, cost: 1, deep: 1, end: lengthens(7, at(9), num(7), 10)}, defining(7, at(9), open)},
		"read-only, behind":    {outcome{answer: false, cost: 1, deep: 1}, defining(5, at(1), open)},
		"an object, unaskable": {outcome{answer: false, thrown: typeError(), cost: 4, deep: 2}, defining(2, str("length"), api.Desc{Value: ref(1)})},
		// 3 is asked for three things, and its prototype for each of them, too.
		"a child, unaskable": {outcome{answer: false, thrown: typeError(), cost: 7, deep: 3}, defining(2, str("length"), api.Desc{Value: ref(3)})},
	} {
		plays(t, name, world, c.want, c.act)
	}
}

// The methods that are not turned say what they say of an ordinary object.
func TestOtherMethods(t *testing.T) {
	for name, c := range map[string]struct {
		want outcome
		act  func(h *heap.Heap) (any, error)
	}{
		"GetPrototypeOf":        {outcome{answer: null(), cost: 1, deep: 1}, func(h *heap.Heap) (any, error) { return h.GetPrototypeOf(2) }},
		"GetPrototypeOf 7":      {outcome{answer: ref(2), cost: 1, deep: 1}, func(h *heap.Heap) (any, error) { return h.GetPrototypeOf(7) }},
		"SetPrototypeOf":        {outcome{answer: true, cost: 1, deep: 1, end: func(l []api.Shape) { l[1].Proto = ref(4) }}, func(h *heap.Heap) (any, error) { return h.SetPrototypeOf(2, ref(4)) }},
		"SetPrototypeOf round":  {outcome{answer: false, cost: 1, deep: 1}, func(h *heap.Heap) (any, error) { return h.SetPrototypeOf(2, ref(7)) }},
		"SetPrototypeOf itself": {outcome{answer: false, cost: 1, deep: 1}, func(h *heap.Heap) (any, error) { return h.SetPrototypeOf(2, ref(2)) }},
		"IsExtensible":          {outcome{answer: true, cost: 1, deep: 1}, func(h *heap.Heap) (any, error) { return h.IsExtensible(2) }},
		"PreventExtensions":     {outcome{answer: true, cost: 1, deep: 1, end: func(l []api.Shape) { l[1].Extensible = false }}, func(h *heap.Heap) (any, error) { return h.PreventExtensions(2) }},
		"HasProperty":           {outcome{answer: true, cost: 1, deep: 1}, func(h *heap.Heap) (any, error) { return h.HasProperty(2, at(2)) }},
		"HasProperty length":    {outcome{answer: true, cost: 1, deep: 1}, func(h *heap.Heap) (any, error) { return h.HasProperty(2, str("length")) }},
		"HasProperty none":      {outcome{answer: false, cost: 1, deep: 1}, func(h *heap.Heap) (any, error) { return h.HasProperty(2, at(3)) }},
		"HasProperty by child":  {outcome{answer: true, cost: 2, deep: 2}, func(h *heap.Heap) (any, error) { return h.HasProperty(3, at(0)) }},
		"HasProperty by array":  {outcome{answer: true, cost: 2, deep: 2}, func(h *heap.Heap) (any, error) { return h.HasProperty(7, at(2)) }},
	} {
		plays(t, name, world, c.want, c.act)
	}
}

// Where an array is not extensible its elements can be set and taken away, and its length moved, and nothing comes.
func TestNotExtensible(t *testing.T) {
	build := func(t *testing.T) *heap.Heap {
		h := world(t)
		shut(t, h, 2)
		return h
	}
	plays(t, "Set", build, outcome{answer: true, cost: 3, deep: 2, end: puts(2, at(0), num(7))}, setting(2, at(0), num(7), ref(2)))
	plays(t, "Set of a new one", build, outcome{answer: false, cost: 3, deep: 2}, setting(2, at(3), num(7), ref(2)))
	plays(t, "longer", build, outcome{answer: true, cost: 3, deep: 2, end: shortens(2, 9)}, setting(2, str("length"), num(9), ref(2)))
	plays(t, "shorter", build, outcome{answer: true, cost: 3, deep: 2, end: shortens(2, 1, "1", "2")}, setting(2, str("length"), num(1), ref(2)))
	plays(t, "PreventExtensions", build, outcome{answer: true, cost: 1, deep: 1}, func(h *heap.Heap) (any, error) { return h.PreventExtensions(2) })
	plays(t, "SetPrototypeOf", build, outcome{answer: false, cost: 1, deep: 1}, func(h *heap.Heap) (any, error) { return h.SetPrototypeOf(2, ref(1)) })
	plays(t, "IsExtensible", build, outcome{answer: false, cost: 1, deep: 1}, func(h *heap.Heap) (any, error) { return h.IsExtensible(2) })
}

// What GetOwnProperty and OwnPropertyKeys tell.
func TestOwnProperties(t *testing.T) {
	h := world(t)
	define(t, h, 2, str("b"), data(num(1), "wec"))
	define(t, h, 2, sym(5), data(num(1), "wec"))
	define(t, h, 2, str("a"), data(num(1), "wec"))
	define(t, h, 2, str("4294967295"), data(num(1), "wec"))
	define(t, h, 2, str("4294967294"), data(num(1), "wec"))
	define(t, h, 2, str("10"), data(num(1), "we"))
	h.Refuel(1)
	want := []api.Key{at(0), at(1), at(2), at(10), str("4294967294"), str("length"), str("b"), str("a"), str("4294967295"), sym(5)}
	if keys, err := h.OwnPropertyKeys(2); !slices.Equal(keys, want) || err != nil || h.Fuel() != 0 {
		t.Errorf("OwnPropertyKeys: %v, %v", keys, err)
	}
	if keys, err := h.OwnPropertyKeys(2); len(keys) != 0 || err != api.ErrFuel {
		t.Errorf("OwnPropertyKeys without fuel: %v, %v", keys, err)
	}
	for k, want := range map[api.Key]api.Desc{at(0): data(num(1), "wec"), at(10): data(num(1), "we"), str("length"): data(num(4294967295), "w"), at(3): {}, str("00"): {}, sym(5): data(num(1), "wec")} {
		h.Refuel(2)
		if d, ok, err := h.GetOwnProperty(2, k); !sameDesc(d, want) || ok != (want != api.Desc{}) || err != nil || h.Fuel() != 1 {
			t.Errorf("GetOwnProperty(%v): %v, %v, %v", k, d, ok, err)
		}
		if d, ok, err := h.GetOwnProperty(3, k); d != (api.Desc{}) || ok || err != nil || h.Fuel() != 0 {
			t.Errorf("GetOwnProperty(%v) of a child: %v, %v, %v", k, d, ok, err)
		}
		if d, ok, err := h.GetOwnProperty(2, k); d != (api.Desc{}) || ok || err != api.ErrFuel {
			t.Errorf("GetOwnProperty(%v) without fuel: %v, %v, %v", k, d, ok, err)
		}
	}
}

// An array can be neither called nor constructed; what is refused ahead of being entered changes nothing.
func TestRefusedMethods(t *testing.T) {
	h := world(t)
	before := h.Shapes()
	if v, err := h.Call(2, null(), nil); v != (api.Value{}) || err != api.ErrKind {
		t.Errorf("Call: %v, %v", v, err)
	}
	if n, err := h.Construct(2, nil, 2); n != 0 || err != api.ErrKind {
		t.Errorf("Construct: %v, %v", n, err)
	}
	for _, k := range []api.Key{at(0), at(3), str("length")} {
		for _, v := range append(broken(), ref(8)) {
			want := h.Check(v)
			if ok, err := h.Set(2, k, v, ref(2)); ok || err != want {
				t.Errorf("Set: %v, %v", ok, err)
			}
			if ok, err := h.Set(2, k, num(7), v); ok || err != want {
				t.Errorf("Set: %v, %v", ok, err)
			}
			if got, err := h.Get(2, k, v); got != (api.Value{}) || err != want {
				t.Errorf("Get: %v, %v", got, err)
			}
			if v == (api.Value{}) {
				continue // a descriptor without a Value is one
			}
			if ok, err := h.DefineOwnProperty(2, k, api.Desc{Value: v, Writable: api.No}); ok || err != want {
				t.Errorf("DefineOwnProperty: %v, %v", ok, err)
			}
		}
		for _, d := range []api.Desc{{Get: ref(1)}, {Set: ref(2)}, {Get: undefined(), Value: num(7)}, {Value: num(1), Writable: 3}} {
			if ok, err := h.DefineOwnProperty(2, k, d); ok || err != api.ErrKind && err != api.ErrValue {
				t.Errorf("DefineOwnProperty: %v, %v", ok, err)
			}
		}
	}
	for _, k := range []api.Key{{Str: "\xff"}, {Str: "0", Sym: 1}, {Str: "length", Sym: 1}, {Sym: -1}, {Sym: 65537}} {
		if ok, err := h.DefineOwnProperty(2, k, data(num(0), "")); ok || err != api.ErrValue {
			t.Errorf("DefineOwnProperty(%v): %v, %v", k, ok, err)
		}
	}
	if !sameShapes(h.Shapes(), before) || h.Fuel() != 100 {
		t.Error("what is refused changes something")
	}
}
