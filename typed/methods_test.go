package typed_test

// Each of the thirteen methods of a typed array, with the array itself and others as the receiver, with objects whose prototype is a typed array, and with each fuel and depth.

import (
	"slices"
	"testing"

	"cameo/api"
	"cameo/heap"
)

// world is a heap with the objects 1 (ordinary, empty), 2 (a buffer of 1 to 8), 3 (TUint8 over it, from 0, four long), 4 (ordinary, of 3), 5 (TInt16 over it, from 4, two long), 6 (ordinary, with 0, 9 and a as 30, 40 and 50), 7 (TUint8 over it, from 4, two long, of 3), 8 (a detached buffer), 9 (TUint8 over that, four long, of 6), 10 (ordinary, of 9).
func world(t *testing.T) *heap.Heap {
	t.Helper()
	h := newHeap(t, 16, 100, 9)
	made(t, h, null())
	filled(t, h, 1, 2, 3, 4, 5, 6, 7, 8)
	over(t, h, 2, api.TUint8, 0, 4)
	made(t, h, ref(3))
	over(t, h, 2, api.TInt16, 4, 2)
	made(t, h, null())
	define(t, h, 6, at(0), data(num(30), "wec"))
	define(t, h, 6, at(9), data(num(40), "wec"))
	define(t, h, 6, str("a"), data(num(50), "wec"))
	over(t, h, 2, api.TUint8, 4, 2)
	free(t, h, func() (bool, error) { return h.SetPrototypeOf(7, ref(3)) })
	filled(t, h, 1, 2, 3, 4)
	over(t, h, 8, api.TUint8, 0, 4)
	free(t, h, func() (bool, error) { return h.SetPrototypeOf(9, ref(6)) })
	made(t, h, ref(9))
	detach(t, h, 8)
	return h
}

// outcome is what an act must come to: its answer or what it throws, its cost, how deep it goes, and what it changes.
type outcome struct {
	answer     any
	thrown     error
	cost, deep int
	end        func(m *moment)
}

// plays holds an act against its outcome, with each fuel up to what it needs, and more, and with each depth.
func plays(t *testing.T, name string, build func(t *testing.T) *heap.Heap, want outcome, act func(h *heap.Heap) (any, error)) {
	t.Helper()
	for fuel := range want.cost + 3 {
		h := build(t)
		h.Refuel(fuel)
		ends(t, name, h, want, fuel, act)
	}
	for room := 1; room <= want.deep; room++ {
		shallow(t, name, build(t), want, room, act)
	}
}

// ends makes an act, and holds what it came to against its outcome, or a stop for fuel.
func ends(t *testing.T, name string, h *heap.Heap, want outcome, fuel int, act func(h *heap.Heap) (any, error)) {
	t.Helper()
	m, answer, stop, rest := now(h), want.answer, want.thrown, fuel-want.cost
	if fuel < want.cost {
		stop, rest, answer = api.ErrFuel, 0, nothing(want.answer)
	} else if want.end != nil {
		want.end(&m)
	}
	if got, err := act(h); !sameAnswer(got, answer) || !sameError(err, stop) || h.Fuel() != rest {
		t.Errorf("%s, fuel %d: %v, %v, %d left; want %v, %v, %d left", name, fuel, got, err, h.Fuel(), answer, stop, rest)
	}
	if got := now(h); !sameMoment(got, m) {
		t.Errorf("%s, fuel %d: left %v; want %v", name, fuel, got, m)
	}
}

func sameAnswer(a, b any) bool {
	v, ok := a.(api.Value)
	w, too := b.(api.Value)
	return ok && too && sameValue(v, w) || !ok && !too && a == b
}

func nothing(answer any) any {
	if _, ok := answer.(bool); ok {
		return false
	}
	return api.Value{}
}

// shallow makes an act within functions that call one another, so that there is no more room than that.
func shallow(t *testing.T, name string, h *heap.Heap, want outcome, room int, act func(h *heap.Heap) (any, error)) {
	t.Helper()
	h.Refuel(1000)
	left := 9 - room
	var f api.Value
	f = addNative(t, h, func(h *heap.Heap, this api.Value, given []api.Value) (api.Value, error) {
		if left--; left > 0 {
			return h.Call(f.Id, this, given)
		}
		if room >= want.deep {
			h.Refuel(want.cost)
			ends(t, name, h, want, want.cost, act)
			return null(), nil
		}
		m := now(h)
		if got, err := act(h); got != nothing(want.answer) || err != api.ErrDepth {
			t.Errorf("%s, room %d: %v, %v", name, room, got, err)
		}
		if got := now(h); !sameMoment(got, m) {
			t.Errorf("%s, room %d: left %v; want %v", name, room, got, m)
		}
		return null(), nil
	})
	if _, err := h.Call(f.Id, null(), nil); err != nil {
		t.Fatal(err)
	}
}

func getting(o int, k api.Key, receiver api.Value) func(h *heap.Heap) (any, error) {
	return func(h *heap.Heap) (any, error) { return h.Get(o, k, receiver) }
}

func setting(o int, k api.Key, v, receiver api.Value) func(h *heap.Heap) (any, error) {
	return func(h *heap.Heap) (any, error) { return h.Set(o, k, v, receiver) }
}

func deleting(o int, k api.Key) func(h *heap.Heap) (any, error) {
	return func(h *heap.Heap) (any, error) { return h.Delete(o, k) }
}

func having(o int, k api.Key) func(h *heap.Heap) (any, error) {
	return func(h *heap.Heap) (any, error) { return h.HasProperty(o, k) }
}

func defining(o int, k api.Key, d api.Desc) func(h *heap.Heap) (any, error) {
	return func(h *heap.Heap) (any, error) { return h.DefineOwnProperty(o, k, d) }
}

// lays is that an object has data that anybody may change; writes is that a buffer has bytes from a place on.
func lays(o int, k api.Key, v api.Value) func(m *moment) {
	return func(m *moment) { put(&m.shapes[o-1], k, data(v, "wec")) }
}

func writes(b, at int, l ...byte) func(m *moment) {
	return func(m *moment) { copy(m.bytes[b-1][at:], l) }
}

// nowhere is numeric keys that are no elements of any array here, and others that are not numeric, though they look like it.
func nowhere() []string {
	return []string{"9", "-0", "-1", "0.5", "NaN", "Infinity", "1e+21", "4294967296"}
}
func likely() []string { return []string{"00", "01", "1.0", "+1", "", "1e21", "-00", "a", "length"} }

// 15.5
func TestGet(t *testing.T) {
	for _, receiver := range append(plain(), ref(1), ref(2), ref(3), ref(4)) {
		for o, l := range map[int][]float64{3: {1, 2, 3, 4}, 5: {0x605, 0x807}, 7: {5, 6}} {
			for i, x := range l {
				plays(t, "Get of an element", world, outcome{answer: num(x), cost: 1, deep: 1}, getting(o, at(i), receiver))
			}
			plays(t, "Get behind the last", world, outcome{answer: undefined(), cost: 1, deep: 1}, getting(o, at(len(l)), receiver))
		}
		for i := range 4 {
			plays(t, "Get by a child", world, outcome{answer: num(float64(i + 1)), cost: 2, deep: 2}, getting(4, at(i), receiver))
			plays(t, "Get of a detached one", world, outcome{answer: undefined(), cost: 1, deep: 1}, getting(9, at(i), receiver))
			plays(t, "Get of a detached one by a child", world, outcome{answer: undefined(), cost: 2, deep: 2}, getting(10, at(i), receiver))
		}
		for _, k := range nowhere() { // no prototype is asked, though 6 has one
			plays(t, "Get "+k, world, outcome{answer: undefined(), cost: 1, deep: 1}, getting(3, str(k), receiver))
			plays(t, "Get "+k, world, outcome{answer: undefined(), cost: 1, deep: 1}, getting(7, str(k), receiver))
			plays(t, "Get "+k, world, outcome{answer: undefined(), cost: 1, deep: 1}, getting(9, str(k), receiver))
			plays(t, "Get "+k+" by a child", world, outcome{answer: undefined(), cost: 2, deep: 2}, getting(4, str(k), receiver))
		}
		for _, k := range likely() {
			plays(t, "Get "+k, world, outcome{answer: undefined(), cost: 1, deep: 1}, getting(3, str(k), receiver))
			plays(t, "Get "+k+" by a child", world, outcome{answer: undefined(), cost: 2, deep: 2}, getting(4, str(k), receiver))
			plays(t, "Get "+k+" of one of it", world, outcome{answer: undefined(), cost: 2, deep: 2}, getting(7, str(k), receiver))
		}
		plays(t, "Get a of a detached one", world, outcome{answer: num(50), cost: 2, deep: 2}, getting(9, str("a"), receiver))
		plays(t, "Get a by a child", world, outcome{answer: num(50), cost: 3, deep: 3}, getting(10, str("a"), receiver))
	}
}

// 15.5
func TestHasProperty(t *testing.T) {
	for i := range 6 {
		for o, long := range map[int]int{3: 4, 5: 2, 7: 2, 9: 0} {
			plays(t, "HasProperty", world, outcome{answer: i < long, cost: 1, deep: 1}, having(o, at(i)))
		}
		plays(t, "HasProperty by a child", world, outcome{answer: i < 4, cost: 2, deep: 2}, having(4, at(i)))
		plays(t, "HasProperty by a child", world, outcome{answer: false, cost: 2, deep: 2}, having(10, at(i)))
	}
	for _, k := range nowhere() {
		for _, o := range []int{3, 5, 7, 9} {
			plays(t, "HasProperty "+k, world, outcome{answer: false, cost: 1, deep: 1}, having(o, str(k)))
		}
		plays(t, "HasProperty "+k, world, outcome{answer: false, cost: 2, deep: 2}, having(10, str(k)))
	}
	for _, k := range likely() {
		plays(t, "HasProperty "+k, world, outcome{answer: false, cost: 1, deep: 1}, having(3, str(k)))
		plays(t, "HasProperty "+k, world, outcome{answer: false, cost: 2, deep: 2}, having(7, str(k)))
		plays(t, "HasProperty "+k, world, outcome{answer: k == "a", cost: 2, deep: 2}, having(9, str(k)))
		plays(t, "HasProperty "+k, world, outcome{answer: k == "a", cost: 3, deep: 3}, having(10, str(k)))
	}
}

// 15.5
func TestDelete(t *testing.T) {
	for i := range 6 {
		for o, long := range map[int]int{3: 4, 5: 2, 7: 2, 9: 0, 4: 0, 10: 0} {
			plays(t, "Delete", world, outcome{answer: i >= long, cost: 1, deep: 1}, deleting(o, at(i)))
		}
	}
	build := func(t *testing.T) *heap.Heap {
		h := world(t)
		for _, o := range []int{3, 9} {
			define(t, h, o, str("00"), data(num(1), "c"))
			define(t, h, o, str("length"), data(num(1), "we"))
			define(t, h, o, sym(3), data(num(1), "c"))
		}
		return h
	}
	for _, o := range []int{3, 9} {
		for _, k := range nowhere() {
			plays(t, "Delete "+k, build, outcome{answer: true, cost: 1, deep: 1}, deleting(o, str(k)))
		}
		plays(t, "Delete of what stays", build, outcome{answer: false, cost: 1, deep: 1}, deleting(o, str("length")))
		plays(t, "Delete of none", build, outcome{answer: true, cost: 1, deep: 1}, deleting(o, str("01")))
		for _, k := range []api.Key{str("00"), sym(3)} {
			taken := func(m *moment) {
				s := &m.shapes[o-1]
				s.Props = slices.DeleteFunc(s.Props, func(p api.Prop) bool { return p.Key == k })
			}
			plays(t, "Delete of what goes", build, outcome{answer: true, cost: 1, deep: 1, end: taken}, deleting(o, k))
		}
	}
}

// 15.6: with the array itself as the receiver.
func TestSet(t *testing.T) {
	for v, want := range map[api.Value]byte{num(7): 7, num(300): 44, num(-1): 255, text(" 0x10 "): 16, text("x"): 0, yes(): 1, no(): 0, null(): 0, undefined(): 0, num(endless): 0} {
		for i := range 4 {
			plays(t, "Set", world, outcome{answer: true, cost: 1, deep: 1, end: writes(2, i, want)}, setting(3, at(i), v, ref(3)))
		}
		plays(t, "Set of one of it", world, outcome{answer: true, cost: 1, deep: 1, end: writes(2, 5, want)}, setting(7, at(1), v, ref(7)))
		for _, k := range append(nowhere(), "4", "5") {
			plays(t, "Set "+k, world, outcome{answer: true, cost: 1, deep: 1}, setting(3, str(k), v, ref(3)))
			plays(t, "Set "+k+" of a detached one", world, outcome{answer: true, cost: 1, deep: 1}, setting(9, str(k), v, ref(9)))
		}
		plays(t, "Set of a detached one", world, outcome{answer: true, cost: 1, deep: 1}, setting(9, at(0), v, ref(9)))
		for _, k := range likely() {
			plays(t, "Set "+k, world, outcome{answer: true, cost: 3, deep: 2, end: lays(3, str(k), v)}, setting(3, str(k), v, ref(3)))
			plays(t, "Set "+k+" of one of it", world, outcome{answer: true, cost: 4, deep: 3, end: lays(7, str(k), v)}, setting(7, str(k), v, ref(7)))
		}
		plays(t, "Set of a symbol", world, outcome{answer: true, cost: 3, deep: 2, end: lays(3, sym(3), v)}, setting(3, sym(3), v, ref(3)))
	}
	plays(t, "Set of two bytes", world, outcome{answer: true, cost: 1, deep: 1, end: writes(2, 6, 0xFE, 0xFF)}, setting(5, at(1), num(-2), ref(5)))
	for _, k := range append(nowhere(), "0", "3", "4") { // what cannot be asked throws, whether there is an element or not
		for _, o := range []int{3, 5, 7, 9} {
			plays(t, "Set to a symbol", world, outcome{answer: false, thrown: typeError(), cost: 1, deep: 1}, setting(o, str(k), symbol(1), ref(o)))
			plays(t, "Set to an object", world, outcome{answer: false, thrown: typeError(), cost: 4, deep: 2}, setting(o, str(k), ref(1), ref(o)))
			plays(t, "Set to a buffer", world, outcome{answer: false, thrown: typeError(), cost: 4, deep: 2}, setting(o, str(k), ref(2), ref(o)))
			plays(t, "Set to a child", world, outcome{answer: false, thrown: typeError(), cost: 7, deep: 3}, setting(o, str(k), ref(4), ref(o)))
		}
	}
}

// 15.6: with another receiver it is that one's methods that define, if the element is there; else nothing is done at all, and v not asked.
func TestSetOnAnother(t *testing.T) {
	v := num(7)
	for _, o := range []int{3, 4} { // itself, and by a prototype
		more := o - 3
		to := func(ok bool, end func(m *moment)) outcome {
			return outcome{answer: ok, cost: 3 + more, deep: 2 + more, end: end}
		}
		for i := range 4 {
			plays(t, "an empty receiver", world, to(true, lays(1, at(i), v)), setting(o, at(i), v, ref(1)))
			plays(t, "a child as the receiver", world, to(true, lays(4, at(i), v)), setting(o, at(i), v, ref(4)))
			plays(t, "a buffer as the receiver", world, to(true, lays(2, at(i), v)), setting(o, at(i), v, ref(2)))
			plays(t, "a receiver that has some", world, to(true, lays(6, at(i), v)), setting(o, at(i), v, ref(6)))
			plays(t, "a detached receiver", world, to(false, nil), setting(o, at(i), v, ref(9)))
			for _, receiver := range plain() {
				plays(t, "no object", world, outcome{answer: false, cost: 1 + more, deep: 1 + more}, setting(o, at(i), v, receiver))
			}
		}
		plays(t, "a typed receiver", world, to(true, writes(2, 6, 7, 0)), setting(o, at(1), v, ref(5)))
		plays(t, "a typed receiver", world, to(false, nil), setting(o, at(2), v, ref(5)))
		plays(t, "a typed receiver of it", world, to(true, writes(2, 4, 7)), setting(o, at(0), v, ref(7)))
		plays(t, "a typed receiver of it", world, to(false, nil), setting(o, at(3), v, ref(7)))
		plays(t, "a typed receiver that throws", world, outcome{answer: false, thrown: typeError(), cost: 3 + more, deep: 2 + more}, setting(o, at(0), symbol(1), ref(5)))
		plays(t, "a receiver that does not ask", world, to(true, lays(1, at(0), symbol(1))), setting(o, at(0), symbol(1), ref(1)))
		for _, k := range append(nowhere(), "4", "5") {
			for _, receiver := range append(plain(), ref(1), ref(2), ref(4), ref(5), ref(6), ref(7), ref(9), ref(10)) {
				for _, v := range []api.Value{v, symbol(1), ref(1)} {
					plays(t, "nobody's "+k, world, outcome{answer: true, cost: 1 + more, deep: 1 + more}, setting(o, str(k), v, receiver))
				}
			}
		}
		plays(t, "no number, on another", world, to(true, lays(1, str("00"), v)), setting(o, str("00"), v, ref(1)))
	}
	// By a child on the array itself: that is the receiver once its turn comes.
	plays(t, "by a child", world, outcome{answer: true, cost: 2, deep: 2, end: writes(2, 0, 7)}, setting(4, at(0), v, ref(3)))
	plays(t, "by a child", world, outcome{answer: true, cost: 2, deep: 2}, setting(4, at(9), v, ref(3)))
	plays(t, "by a child", world, outcome{answer: false, thrown: typeError(), cost: 2, deep: 2}, setting(4, at(9), symbol(1), ref(3)))
	plays(t, "by one of it", world, outcome{answer: true, cost: 3, deep: 2, end: writes(2, 0, 7)}, setting(7, at(0), v, ref(3)))
	plays(t, "by one of it that has none", world, outcome{answer: true, cost: 1, deep: 1}, setting(7, at(2), v, ref(3)))
	plays(t, "by one that is detached", world, outcome{answer: true, cost: 1, deep: 1}, setting(9, at(0), v, ref(3)))
	plays(t, "by a child of one that is detached", world, outcome{answer: true, cost: 2, deep: 2}, setting(10, at(0), v, ref(10)))
	// By an ordinary object on an array.
	plays(t, "by one that has it", world, outcome{answer: true, cost: 3, deep: 2, end: writes(2, 0, 7)}, setting(6, at(0), v, ref(3)))
	plays(t, "by one that has none", world, outcome{answer: true, cost: 3, deep: 2, end: writes(2, 3, 7)}, setting(1, at(3), v, ref(3)))
	for _, k := range append(nowhere(), "4") {
		plays(t, "by one, nobody's", world, outcome{answer: false, cost: 3, deep: 2}, setting(1, str(k), v, ref(3)))
		plays(t, "by one, nobody's", world, outcome{answer: false, cost: 3, deep: 2}, setting(6, str(k), v, ref(3)))
		plays(t, "by one, nobody's, not asked", world, outcome{answer: false, cost: 3, deep: 2}, setting(1, str(k), symbol(1), ref(3)))
	}
	plays(t, "by one, detached", world, outcome{answer: false, cost: 3, deep: 2}, setting(1, at(0), v, ref(9)))
	plays(t, "by one, an object", world, outcome{answer: false, thrown: typeError(), cost: 6, deep: 3}, setting(1, at(0), ref(1), ref(3)))
}

// 15.6: a receiver's accessors, and what is read-only there, stand between as they always do.
func TestSetOnFixed(t *testing.T) {
	build := func(t *testing.T) *heap.Heap {
		h := world(t)
		define(t, h, 1, at(0), data(num(1), "ec"))
		define(t, h, 1, at(1), accessor(undefined(), undefined(), "ec"))
		free(t, h, func() (bool, error) { return h.PreventExtensions(1) })
		return h
	}
	for i := range 2 {
		plays(t, "a fixed receiver", build, outcome{answer: false, cost: 2, deep: 2}, setting(3, at(i), num(7), ref(1)))
	}
	for i := 2; i < 4; i++ {
		plays(t, "a receiver that gets none", build, outcome{answer: false, cost: 3, deep: 2}, setting(3, at(i), num(7), ref(1)))
	}
}

// 15.6: each descriptor there is, by its fields.
func TestDefine(t *testing.T) {
	tris := []api.Tri{api.Absent, api.No, api.Yes}
	check := func(d api.Desc, ok bool, end func(m *moment)) {
		t.Helper()
		plays(t, "Define", world, outcome{answer: ok, cost: 1, deep: 1, end: end}, defining(3, at(1), d))
		plays(t, "Define behind the last", world, outcome{answer: false, cost: 1, deep: 1}, defining(3, at(4), d))
		plays(t, "Define of -0", world, outcome{answer: false, cost: 1, deep: 1}, defining(3, str("-0"), d))
		plays(t, "Define of a detached one", world, outcome{answer: false, cost: 1, deep: 1}, defining(9, at(1), d))
	}
	for _, e := range tris {
		for _, c := range tris {
			for _, w := range tris {
				open := e != api.No && c != api.No && w != api.No
				check(api.Desc{Writable: w, Enumerable: e, Configurable: c}, open, nil)
				for _, v := range []api.Value{num(7), text("7"), num(263)} {
					end := writes(2, 1, 7)
					if !open {
						end = nil
					}
					check(api.Desc{Value: v, Writable: w, Enumerable: e, Configurable: c}, open, end)
				}
			}
			for _, get := range []api.Value{{}, undefined()} {
				for _, set := range []api.Value{{}, undefined()} {
					if get != set || get != (api.Value{}) {
						check(api.Desc{Get: get, Set: set, Enumerable: e, Configurable: c}, false, nil)
					}
				}
			}
		}
	}
	f := func(h *heap.Heap, this api.Value, given []api.Value) (api.Value, error) {
		t.Error("15.6: an accessor is called")
		return num(1), nil
	}
	build := func(t *testing.T) *heap.Heap {
		h := world(t)
		addNative(t, h, f)
		return h
	}
	plays(t, "Define by functions", build, outcome{answer: false, cost: 1, deep: 1}, defining(3, at(0), api.Desc{Get: ref(11), Set: ref(11)}))
}

// 15.6: which values are asked, and when.
func TestDefineAsks(t *testing.T) {
	for v, want := range map[api.Value]byte{undefined(): 0, null(): 0, yes(): 1, text("255"): 255, text(""): 0, num(nan): 0, num(1e300): 0} {
		plays(t, "Define", world, outcome{answer: true, cost: 1, deep: 1, end: writes(2, 0, want)}, defining(3, at(0), api.Desc{Value: v}))
	}
	for v, cost := range map[api.Value]int{symbol(1): 1, ref(1): 4} { // an object is asked for its symbol, valueOf and toString
		plays(t, "Define, asked", world, outcome{answer: false, thrown: typeError(), cost: cost, deep: min(cost, 2)}, defining(3, at(0), api.Desc{Value: v}))
		// Where it is false it is so ahead of asking.
		plays(t, "Define, not asked", world, outcome{answer: false, cost: 1, deep: 1}, defining(3, at(0), api.Desc{Value: v, Configurable: api.No}))
		plays(t, "Define, not asked", world, outcome{answer: false, cost: 1, deep: 1}, defining(3, at(4), api.Desc{Value: v}))
		plays(t, "Define, not asked", world, outcome{answer: false, cost: 1, deep: 1}, defining(3, str("-0"), api.Desc{Value: v}))
		plays(t, "Define, not asked", world, outcome{answer: false, cost: 1, deep: 1}, defining(9, at(0), api.Desc{Value: v}))
		// What is no number is not asked ever.
		plays(t, "Define of another key", world, outcome{answer: true, cost: 1, deep: 1, end: lays(3, str("00"), v)}, defining(3, str("00"), data(v, "wec")))
	}
}

// The methods that are not turned say what they say of an ordinary object.
func TestOtherMethods(t *testing.T) {
	proto := func(o int, v api.Value) func(h *heap.Heap) (any, error) {
		return func(h *heap.Heap) (any, error) { return h.SetPrototypeOf(o, v) }
	}
	for _, o := range []int{2, 3, 5, 8} {
		plays(t, "GetPrototypeOf", world, outcome{answer: null(), cost: 1, deep: 1}, func(h *heap.Heap) (any, error) { return h.GetPrototypeOf(o) })
		plays(t, "SetPrototypeOf", world, outcome{answer: true, cost: 1, deep: 1, end: func(m *moment) { m.shapes[o-1].Proto = ref(6) }}, proto(o, ref(6)))
		plays(t, "SetPrototypeOf itself", world, outcome{answer: false, cost: 1, deep: 1}, proto(o, ref(o)))
		plays(t, "SetPrototypeOf null", world, outcome{answer: true, cost: 1, deep: 1}, proto(o, null()))
		plays(t, "IsExtensible", world, outcome{answer: true, cost: 1, deep: 1}, func(h *heap.Heap) (any, error) { return h.IsExtensible(o) })
		plays(t, "PreventExtensions", world, outcome{answer: true, cost: 1, deep: 1, end: func(m *moment) { m.shapes[o-1].Extensible = false }}, func(h *heap.Heap) (any, error) { return h.PreventExtensions(o) })
	}
	plays(t, "SetPrototypeOf round", world, outcome{answer: false, cost: 1, deep: 1}, proto(3, ref(4)))
	plays(t, "SetPrototypeOf round", world, outcome{answer: false, cost: 1, deep: 1}, proto(3, ref(7)))
	plays(t, "GetPrototypeOf", world, outcome{answer: ref(3), cost: 1, deep: 1}, func(h *heap.Heap) (any, error) { return h.GetPrototypeOf(7) })
}

// Where a typed array is not extensible its elements can be set as before, and no property comes.
func TestNotExtensible(t *testing.T) {
	build := func(t *testing.T) *heap.Heap {
		h := world(t)
		define(t, h, 3, str("b"), data(num(1), "wec"))
		free(t, h, func() (bool, error) { return h.PreventExtensions(3) })
		return h
	}
	plays(t, "Set", build, outcome{answer: true, cost: 1, deep: 1, end: writes(2, 0, 7)}, setting(3, at(0), num(7), ref(3)))
	plays(t, "Set of none", build, outcome{answer: true, cost: 1, deep: 1}, setting(3, at(4), num(7), ref(3)))
	plays(t, "Define", build, outcome{answer: true, cost: 1, deep: 1, end: writes(2, 0, 7)}, defining(3, at(0), data(num(7), "wec")))
	plays(t, "Define of none", build, outcome{answer: false, cost: 1, deep: 1}, defining(3, at(4), data(num(7), "wec")))
	plays(t, "Set of a property", build, outcome{answer: true, cost: 3, deep: 2, end: lays(3, str("b"), num(7))}, setting(3, str("b"), num(7), ref(3)))
	plays(t, "Set of a new property", build, outcome{answer: false, cost: 3, deep: 2}, setting(3, str("00"), num(7), ref(3)))
	plays(t, "SetPrototypeOf", build, outcome{answer: false, cost: 1, deep: 1}, func(h *heap.Heap) (any, error) { return h.SetPrototypeOf(3, ref(1)) })
	plays(t, "IsExtensible", build, outcome{answer: false, cost: 1, deep: 1}, func(h *heap.Heap) (any, error) { return h.IsExtensible(3) })
}

// 15.5: what GetOwnProperty tells.
func TestGetOwnProperty(t *testing.T) {
	h := world(t)
	define(t, h, 3, str("00"), data(num(9), "w"))
	define(t, h, 3, sym(5), accessor(undefined(), undefined(), "e"))
	for _, c := range []struct {
		o    int
		k    api.Key
		want api.Desc
	}{
		{3, at(0), data(num(1), "wec")}, {3, at(3), data(num(4), "wec")}, {5, at(0), data(num(0x605), "wec")}, {5, at(1), data(num(0x807), "wec")}, {7, at(1), data(num(6), "wec")},
		{3, str("00"), data(num(9), "w")}, {3, sym(5), accessor(undefined(), undefined(), "e")},
		{3, at(4), api.Desc{}}, {3, str("-0"), api.Desc{}}, {3, str("NaN"), api.Desc{}}, {3, str("01"), api.Desc{}}, {3, sym(4), api.Desc{}}, {7, at(2), api.Desc{}}, {7, str("00"), api.Desc{}}, {9, at(0), api.Desc{}}, {9, at(9), api.Desc{}}, {4, at(0), api.Desc{}}, {10, at(0), api.Desc{}},
	} {
		h.Refuel(1)
		if d, ok, err := h.GetOwnProperty(c.o, c.k); !sameDesc(d, c.want) || ok != (c.want != api.Desc{}) || err != nil || h.Fuel() != 0 {
			t.Errorf("15.5: GetOwnProperty(%d, %v): %v, %v, %v; want %v", c.o, c.k, d, ok, err, c.want)
		}
		if d, ok, err := h.GetOwnProperty(c.o, c.k); d != (api.Desc{}) || ok || err != api.ErrFuel {
			t.Errorf("15.5: GetOwnProperty(%d, %v) without fuel: %v, %v, %v", c.o, c.k, d, ok, err)
		}
	}
}

// 15.7
func TestOwnPropertyKeys(t *testing.T) {
	h := world(t)
	for _, o := range []int{3, 9} {
		for _, k := range []api.Key{str("b"), sym(5), str("00"), str("a"), sym(2), str("1.0"), str("")} {
			define(t, h, o, k, data(num(1), "c"))
		}
	}
	rest := []api.Key{str("b"), str("00"), str("a"), str("1.0"), str(""), sym(5), sym(2)}
	for o, want := range map[int][]api.Key{3: append([]api.Key{at(0), at(1), at(2), at(3)}, rest...), 5: {at(0), at(1)}, 7: {at(0), at(1)}, 9: rest, 4: nil, 10: nil} {
		h.Refuel(1)
		if keys, err := h.OwnPropertyKeys(o); !slices.Equal(keys, want) || err != nil || h.Fuel() != 0 {
			t.Errorf("15.7: OwnPropertyKeys(%d): %v, %v; want %v", o, keys, err, want)
		}
		if keys, err := h.OwnPropertyKeys(o); len(keys) != 0 || err != api.ErrFuel {
			t.Errorf("15.7: OwnPropertyKeys(%d) without fuel: %v, %v", o, keys, err)
		}
	}
	// The shape tells the properties alone, in the order in which they came.
	s, _ := h.Shape(3)
	var keys []api.Key
	for _, p := range s.Props {
		keys = append(keys, p.Key)
	}
	if !slices.Equal(keys, []api.Key{str("b"), sym(5), str("00"), str("a"), sym(2), str("1.0"), str("")}) || s.Class != api.CTyped {
		t.Errorf("15.7: %v", s)
	}
	detach(t, h, 2)
	h.Refuel(9)
	for o, want := range map[int][]api.Key{3: rest, 5: nil, 7: nil} {
		if keys, err := h.OwnPropertyKeys(o); !slices.Equal(keys, want) || err != nil {
			t.Errorf("15.7: OwnPropertyKeys(%d), detached: %v, %v; want %v", o, keys, err, want)
		}
	}
}

// 15.7: as many keys as a typed array can have, and none.
func TestManyKeys(t *testing.T) {
	h := newHeap(t, 3, 10, 1)
	b := filled(t, h, make([]byte, api.MaxBuffer)...)
	o, none := over(t, h, b, api.TUint8C, 0, api.MaxBuffer), over(t, h, b, api.TFloat64, api.MaxBuffer, 0)
	keys, err := h.OwnPropertyKeys(o)
	if len(keys) != api.MaxBuffer || err != nil {
		t.Fatalf("%d, %v", len(keys), err)
	}
	for i, k := range keys {
		if k != at(i) {
			t.Fatalf("15.7: %v is the key %d", k, i)
		}
	}
	if keys, err := h.OwnPropertyKeys(none); len(keys) != 0 || err != nil {
		t.Errorf("15.7: %v, %v", keys, err)
	}
	sets(t, h, o, at(65535), num(300))
	tells(t, h, o, at(65535), num(255))
	tells(t, h, o, at(65536), undefined())
	tells(t, h, none, at(0), undefined())
}

// Neither a typed array nor a buffer can be called or constructed; what is refused ahead of being entered changes nothing.
func TestRefusedMethods(t *testing.T) {
	h := world(t)
	before := now(h)
	for _, o := range []int{2, 3, 9} {
		if v, err := h.Call(o, null(), nil); v != (api.Value{}) || err != api.ErrKind || h.Callable(ref(o)) {
			t.Errorf("Call: %v, %v", v, err)
		}
		if n, err := h.Construct(o, nil, o); n != 0 || err != api.ErrKind || h.Constructor(ref(o)) {
			t.Errorf("Construct: %v, %v", n, err)
		}
		for _, k := range []api.Key{at(0), at(9), str("-0"), str("00")} {
			for _, v := range append(broken(), ref(11)) {
				want := h.Check(v)
				if ok, err := h.Set(o, k, v, ref(o)); ok || err != want {
					t.Errorf("Set: %v, %v", ok, err)
				}
				if ok, err := h.Set(o, k, num(7), v); ok || err != want {
					t.Errorf("Set: %v, %v", ok, err)
				}
				if got, err := h.Get(o, k, v); got != (api.Value{}) || err != want {
					t.Errorf("Get: %v, %v", got, err)
				}
				if v == (api.Value{}) {
					continue // a descriptor without a Value is one
				}
				if ok, err := h.DefineOwnProperty(o, k, api.Desc{Value: v, Writable: api.No}); ok || err != want {
					t.Errorf("DefineOwnProperty: %v, %v", ok, err)
				}
			}
			for _, d := range []api.Desc{{Get: ref(1)}, {Set: ref(3)}, {Get: undefined(), Value: num(7)}, {Value: num(1), Writable: 3}} {
				if ok, err := h.DefineOwnProperty(o, k, d); ok || err != api.ErrKind && err != api.ErrValue {
					t.Errorf("DefineOwnProperty: %v, %v", ok, err)
				}
			}
		}
		for _, k := range []api.Key{{Str: "\xff"}, {Str: "0", Sym: 1}, {Str: "-0", Sym: 1}, {Sym: -1}, {Sym: 65537}} {
			if ok, err := h.DefineOwnProperty(o, k, data(num(0), "wec")); ok || err != api.ErrValue {
				t.Errorf("DefineOwnProperty(%v): %v, %v", k, ok, err)
			}
			if v, err := h.Get(o, k, null()); v != (api.Value{}) || err != api.ErrValue {
				t.Errorf("Get(%v): %v, %v", k, v, err)
			}
		}
	}
	if !sameMoment(now(h), before) || h.Fuel() != 100 {
		t.Error("what is refused changes something")
	}
}
