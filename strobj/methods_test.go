package strobj_test

// Each of the thirteen methods of a String object, with the object itself and others as the receiver, with objects whose prototype is a String object, and with each fuel and depth.

import (
	"slices"
	"testing"

	"cameo/api"
	"cameo/array"
	"cameo/heap"
	"cameo/typed"
)

// world is a heap with the objects 1 (ordinary, empty), 2 (a String object of ab), 3 (ordinary, of 2), 4 (a String object of x and U+1F600, of 2), 5 (ordinary, with 0, 9 and a as 30, 40 and 50), 6 (a String object of the empty string, of 5), 7 (ordinary, of 6), 8 (a String object of abc, with 5 and c as 60 and 70, of which c is fixed; not extensible).
func world(t *testing.T) *heap.Heap {
	t.Helper()
	h := newHeap(t, 16, 100, 9)
	made(t, h, null())
	of(t, h, null(), "ab")
	made(t, h, ref(2))
	of(t, h, ref(2), "x\U0001f600")
	made(t, h, null())
	define(t, h, 5, at(0), data(num(30), "wec"))
	define(t, h, 5, at(9), data(num(40), "wec"))
	define(t, h, 5, str("a"), data(num(50), "wec"))
	of(t, h, ref(5), "")
	made(t, h, ref(6))
	of(t, h, null(), "abc")
	define(t, h, 8, at(5), data(num(60), "wec"))
	define(t, h, 8, str("c"), data(num(70), "e"))
	shut(t, h, 8)
	return h
}

// outcome is what an act must come to: its answer, its cost, how deep it goes, and what it changes.
type outcome struct {
	answer     any
	cost, deep int
	end        func(m *moment)
}

// plays holds an act against its outcome, with each fuel up to what it needs, and more, and with each depth.
func plays(t *testing.T, name string, build func(t *testing.T) *heap.Heap, want outcome, act func(h *heap.Heap) (any, error)) {
	t.Helper()
	for fuel := range want.cost + 3 {
		h := build(t)
		h.Refuel(fuel)
		ends(t, name, h, want, fuel, act)
	}
	for room := 1; room <= want.deep; room++ {
		shallow(t, name, build(t), want, room, act)
	}
}

// ends makes an act, and holds what it came to against its outcome, or a stop for fuel.
func ends(t *testing.T, name string, h *heap.Heap, want outcome, fuel int, act func(h *heap.Heap) (any, error)) {
	t.Helper()
	m, answer, rest := now(h), want.answer, fuel-want.cost
	var stop error
	if fuel < want.cost {
		stop, rest, answer = api.ErrFuel, 0, nothing(want.answer)
	} else if want.end != nil {
		want.end(&m)
	}
	if got, err := act(h); !sameAnswer(got, answer) || err != stop || h.Fuel() != rest {
		t.Errorf("%s, fuel %d: %v, %v, %d left; want %v, %v, %d left", name, fuel, got, err, h.Fuel(), answer, stop, rest)
	}
	if got := now(h); !sameMoment(got, m) {
		t.Errorf("%s, fuel %d: left %v; want %v", name, fuel, got, m)
	}
}

func sameAnswer(a, b any) bool {
	v, ok := a.(api.Value)
	w, too := b.(api.Value)
	return ok && too && sameValue(v, w) || !ok && !too && a == b
}

func nothing(answer any) any {
	switch answer.(type) {
	case bool:
		return false
	case api.Desc:
		return api.Desc{}
	}
	return api.Value{}
}

// shallow makes an act within functions that call one another, so that there is no more room than that.
func shallow(t *testing.T, name string, h *heap.Heap, want outcome, room int, act func(h *heap.Heap) (any, error)) {
	t.Helper()
	h.Refuel(1000)
	left := 9 - room
	var f api.Value
	f = addNative(t, h, func(h *heap.Heap, this api.Value, given []api.Value) (api.Value, error) {
		if left--; left > 0 {
			return h.Call(f.Id, this, given)
		}
		if room >= want.deep {
			h.Refuel(want.cost)
			ends(t, name, h, want, want.cost, act)
			return null(), nil
		}
		m := now(h)
		if got, err := act(h); got != nothing(want.answer) || err != api.ErrDepth {
			t.Errorf("%s, room %d: %v, %v", name, room, got, err)
		}
		if got := now(h); !sameMoment(got, m) {
			t.Errorf("%s, room %d: left %v; want %v", name, room, got, m)
		}
		return null(), nil
	})
	if _, err := h.Call(f.Id, null(), nil); err != nil {
		t.Fatal(err)
	}
}

func getting(o int, k api.Key, receiver api.Value) func(h *heap.Heap) (any, error) {
	return func(h *heap.Heap) (any, error) { return h.Get(o, k, receiver) }
}

func setting(o int, k api.Key, v, receiver api.Value) func(h *heap.Heap) (any, error) {
	return func(h *heap.Heap) (any, error) { return h.Set(o, k, v, receiver) }
}

func deleting(o int, k api.Key) func(h *heap.Heap) (any, error) {
	return func(h *heap.Heap) (any, error) { return h.Delete(o, k) }
}

func having(o int, k api.Key) func(h *heap.Heap) (any, error) {
	return func(h *heap.Heap) (any, error) { return h.HasProperty(o, k) }
}

func defining(o int, k api.Key, d api.Desc) func(h *heap.Heap) (any, error) {
	return func(h *heap.Heap) (any, error) { return h.DefineOwnProperty(o, k, d) }
}

// owning tells the own property alone: of one that is not there that is the zero descriptor.
func owning(o int, k api.Key) func(h *heap.Heap) (any, error) {
	return func(h *heap.Heap) (any, error) {
		d, ok, err := h.GetOwnProperty(o, k)
		if ok != (d != api.Desc{}) {
			return ok, err
		}
		return d, err
	}
}

// lays is that an object has data that anybody may change.
func lays(o int, k api.Key, v api.Value) func(m *moment) {
	return func(m *moment) { put(&m.shapes[o-1], k, data(v, "wec")) }
}

// units is what the String objects of the world show.
func units() map[int][]string {
	return map[int][]string{2: {"a", "b"}, 4: {"x", high, low}, 8: {"a", "b", "c"}}
}

// likely is keys of which no object of the world has anything.
func likely() []api.Key {
	return []api.Key{str("00"), str("01"), str("-0"), str("1.5"), str("1.0"), str(""), str("12"), str("4294967296"), str("b"), sym(1), sym(3)}
}

// everybody is receivers of every sort.
func everybody() []api.Value {
	return append(plain(), ref(1), ref(2), ref(3), ref(4), ref(5), ref(6), ref(7), ref(8))
}

// 16.1
func TestGetOwnProperty(t *testing.T) {
	own := func(name string, o int, k api.Key, want api.Desc) {
		t.Helper()
		plays(t, name, world, outcome{answer: want, cost: 1, deep: 1}, owning(o, k))
	}
	for o, l := range units() {
		for i, c := range l {
			own("a unit", o, at(i), data(text(c), "e"))
		}
		own("behind the last", o, at(len(l)), api.Desc{})
		own("length", o, str("length"), data(num(float64(len(l))), ""))
	}
	own("length of the empty one", 6, str("length"), data(num(0), ""))
	own("what lies there", 8, at(5), data(num(60), "wec"))
	own("what lies there", 8, str("c"), data(num(70), "e"))
	for _, k := range append(likely(), at(0), at(1), at(2), str("a"), str("length")) {
		own("a child's", 3, k, api.Desc{})
		own("a child's of the empty one", 7, k, api.Desc{})
	}
	own("the empty one's", 6, at(0), api.Desc{})
	for _, k := range likely() {
		for _, o := range []int{2, 4, 6, 8} {
			own("no unit", o, k, api.Desc{})
		}
	}
}

// 16.1, 16.5: whatever the receiver is.
func TestGet(t *testing.T) {
	for _, receiver := range everybody() {
		get := func(name string, o int, k api.Key, want api.Value, cost int) {
			t.Helper()
			plays(t, name, world, outcome{answer: want, cost: cost, deep: cost}, getting(o, k, receiver))
		}
		for o, l := range units() {
			for i, c := range l {
				get("a unit", o, at(i), text(c), 1)
			}
			get("length", o, str("length"), num(float64(len(l))), 1)
		}
		for i, c := range units()[2] {
			get("a child's unit", 3, at(i), text(c), 2)
		}
		get("a child's length", 3, str("length"), num(2), 2)
		get("behind the last", 2, at(2), undefined(), 1)
		get("behind the last, of a child", 3, at(2), undefined(), 2)
		get("behind the last, of one of it", 4, at(3), undefined(), 2)
		get("of the empty one", 6, at(0), num(30), 2)
		get("of the empty one", 6, at(1), undefined(), 2)
		get("of the empty one", 6, str("a"), num(50), 2)
		get("of the empty one", 6, str("length"), num(0), 1)
		get("of the empty one's child", 7, at(9), num(40), 3)
		get("of the empty one's child", 7, str("length"), num(0), 2)
		get("what lies there", 8, at(5), num(60), 1)
		get("what lies there", 8, str("c"), num(70), 1)
		for _, k := range likely() {
			get("no unit", 2, k, undefined(), 1)
			get("no unit", 8, k, undefined(), 1)
			get("no unit, of a child", 3, k, undefined(), 2)
			get("no unit, of one of it", 4, k, undefined(), 2)
			get("no unit, of the empty one's child", 7, k, undefined(), 3)
		}
	}
}

// 16.1
func TestHasProperty(t *testing.T) {
	has := func(name string, o int, k api.Key, want bool, cost int) {
		t.Helper()
		plays(t, name, world, outcome{answer: want, cost: cost, deep: cost}, having(o, k))
	}
	for o, l := range units() {
		for i := range l {
			has("a unit", o, at(i), true, 1)
		}
		has("length", o, str("length"), true, 1)
	}
	for i := range 2 {
		has("a child's unit", 3, at(i), true, 2)
	}
	has("behind the last", 2, at(2), false, 1)
	has("behind the last", 8, at(3), false, 1)
	has("behind the last, of a child", 3, at(2), false, 2)
	has("behind the last, of one of it", 4, at(3), false, 2)
	has("of the empty one", 6, at(0), true, 2)
	has("of the empty one", 6, at(1), false, 2)
	has("of the empty one's child", 7, at(9), true, 3)
	has("what lies there", 8, at(5), true, 1)
	for _, k := range likely() {
		has("no unit", 2, k, false, 1)
		has("no unit, of one of it", 4, k, false, 2)
		has("no unit, of the empty one's child", 7, k, false, 3)
	}
}

// 16.1: what is a unit, or the length, stays; what lies there goes, if it may.
func TestDelete(t *testing.T) {
	drop := func(name string, o int, k api.Key, want bool, end func(m *moment)) {
		t.Helper()
		plays(t, name, world, outcome{answer: want, cost: 1, deep: 1, end: end}, deleting(o, k))
	}
	for o, l := range units() {
		for i := range l {
			drop("a unit", o, at(i), false, nil)
		}
		drop("behind the last", o, at(len(l)), true, nil)
		drop("length", o, str("length"), false, nil)
	}
	drop("length of the empty one", 6, str("length"), false, nil)
	for _, k := range append(likely(), at(0), at(1), str("length"), str("a")) {
		drop("a child's", 3, k, true, nil)
		drop("a child's of the empty one", 7, k, true, nil)
	}
	drop("the empty one's", 6, at(0), true, nil)
	drop("what goes", 8, at(5), true, func(m *moment) { gone(&m.shapes[7], at(5)) })
	drop("what stays", 8, str("c"), false, nil)
	for _, k := range likely() {
		drop("no unit", 2, k, true, nil)
		drop("no unit", 8, k, true, nil)
	}
}

// 16.1: with any receiver nothing is ever set under a unit's key, and nothing is entered but the objects on the way to it.
func TestSetUnits(t *testing.T) {
	for _, receiver := range everybody() {
		for _, v := range []api.Value{num(7), text("a"), undefined(), ref(1)} {
			set := func(name string, o int, k api.Key, cost int) {
				t.Helper()
				plays(t, name, world, outcome{answer: false, cost: cost, deep: cost}, setting(o, k, v, receiver))
			}
			for o, l := range units() {
				for i := range l {
					set("a unit", o, at(i), 1)
				}
				set("length", o, str("length"), 1)
			}
			for i := range 2 {
				set("a child's unit", 3, at(i), 2)
			}
			set("a child's length", 3, str("length"), 2)
			set("the empty one's length", 6, str("length"), 1)
			set("the empty one's child's length", 7, str("length"), 2)
			set("what is fixed", 8, str("c"), 1)
		}
	}
}

// 9.8: under all other keys it is the receiver's turn.
func TestSetOthers(t *testing.T) {
	v := num(7)
	set := func(name string, o int, k api.Key, receiver api.Value, want outcome) {
		t.Helper()
		plays(t, name, world, want, setting(o, k, v, receiver))
	}
	to := func(on int, k api.Key, cost, deep int) outcome {
		return outcome{answer: true, cost: cost, deep: deep, end: lays(on, k, v)}
	}
	for _, k := range append(likely(), at(4), at(6)) {
		set("itself", 2, k, ref(2), to(2, k, 3, 2))
		set("by a child", 3, k, ref(3), to(3, k, 4, 3))
		set("by a child, on it", 3, k, ref(2), to(2, k, 4, 3))
		set("by it, on a child", 2, k, ref(3), to(3, k, 3, 2))
		set("one of it", 4, k, ref(4), to(4, k, 4, 3))
		set("another one", 2, k, ref(4), to(4, k, 3, 2))
		set("the empty one", 6, k, ref(6), to(6, k, 4, 3))
		set("an ordinary one", 2, k, ref(1), to(1, k, 3, 2))
		set("one that gets none", 8, k, ref(8), outcome{answer: false, cost: 3, deep: 2})
		set("by another one on one that gets none", 2, k, ref(8), outcome{answer: false, cost: 3, deep: 2})
		for _, receiver := range plain() {
			set("no object", 2, k, receiver, outcome{answer: false, cost: 1, deep: 1})
			set("no object, by a child", 3, k, receiver, outcome{answer: false, cost: 2, deep: 2})
		}
	}
	set("just behind the last", 2, at(2), ref(2), to(2, at(2), 3, 2))
	set("just behind the last, of one of it", 4, at(3), ref(4), to(4, at(3), 4, 3))
	set("what lies there", 8, at(5), ref(8), to(8, at(5), 3, 2))
	set("what a prototype has", 6, at(0), ref(6), to(6, at(0), 4, 3))
	set("what a prototype has", 7, at(9), ref(7), to(7, at(9), 5, 4))
	set("what a prototype has, on another one", 6, at(0), ref(5), to(5, at(0), 4, 3))
}

// 9.8: a receiver's units cannot be set, whoever is asked.
func TestSetOnUnits(t *testing.T) {
	set := func(name string, o int, k api.Key, receiver, cost, deep int) {
		t.Helper()
		plays(t, name, world, outcome{answer: false, cost: cost, deep: deep}, setting(o, k, text("a"), ref(receiver)))
	}
	for receiver, l := range units() {
		for i := range l {
			set("by an empty object", 1, at(i), receiver, 2, 2)
			set("by one that has none", 6, at(i), receiver, 3, 3)
		}
		set("the length, by an empty object", 1, str("length"), receiver, 2, 2)
		set("by one that has such a property", 5, at(0), receiver, 2, 2)
	}
	set("beyond its own units", 2, at(2), 4, 2, 2) // ab has no third unit, the receiver has
	set("beyond its own units, by a child", 3, at(2), 8, 3, 3)
}

// 9.7, 9.8: accessors of a String object, and of its prototype, are called with the receiver.
func TestAccessors(t *testing.T) {
	for _, k := range []api.Key{at(2), str("01"), str("a"), sym(3)} {
		for _, o := range []int{2, 3} {
			h := world(t)
			var this api.Value
			var given []api.Value
			f := addNative(t, h, func(h *heap.Heap, v api.Value, l []api.Value) (api.Value, error) {
				this, given = v, slices.Clone(l)
				return num(5), nil
			})
			define(t, h, 2, k, accessor(f, f, "c"))
			for _, receiver := range everybody() {
				if v, err := h.Get(o, k, receiver); v != num(5) || err != nil || !sameValue(this, receiver) || len(given) != 0 {
					t.Errorf("Get(%d, %v): %v, %v, called with %v and %v", o, k, v, err, this, given)
				}
				if ok, err := h.Set(o, k, text("v"), receiver); !ok || err != nil || !sameValue(this, receiver) || !slices.Equal(given, []api.Value{text("v")}) {
					t.Errorf("Set(%d, %v): %v, %v, called with %v and %v", o, k, ok, err, this, given)
				}
				h.Refuel(100)
			}
		}
	}
}

// 16.2, with each fuel and depth.
func TestDefine(t *testing.T) {
	def := func(name string, o int, k api.Key, d api.Desc, want bool, end func(m *moment)) {
		t.Helper()
		plays(t, name, world, outcome{answer: want, cost: 1, deep: 1, end: end}, defining(o, k, d))
	}
	for o, l := range units() {
		for i, c := range l {
			def("a unit as it is", o, at(i), data(text(c), "e"), true, nil)
			def("a unit as nothing", o, at(i), api.Desc{}, true, nil)
			def("a unit as another one", o, at(i), api.Desc{Value: text("z")}, false, nil)
			def("a unit as an accessor", o, at(i), api.Desc{Get: undefined()}, false, nil)
		}
	}
	for _, k := range append(likely(), at(7)) {
		def("another one", 2, k, data(num(1), "wec"), true, lays(2, k, num(1)))
		def("another one of one of it", 4, k, data(num(1), "wec"), true, lays(4, k, num(1)))
		def("of one that gets none", 8, k, data(num(1), "wec"), false, nil)
	}
	for i := range 2 { // a child has no units of its own
		def("a child's", 3, at(i), data(num(1), "wec"), true, lays(3, at(i), num(1)))
	}
}

// 16.3, with each fuel and depth.
func TestOwnPropertyKeys(t *testing.T) {
	for o, want := range map[int][]api.Key{
		2: {at(0), at(1), str("length")}, 3: nil, 4: {at(0), at(1), at(2), str("length")}, 6: {str("length")}, 7: nil,
		8: {at(0), at(1), at(2), at(5), str("length"), str("c")},
	} {
		plays(t, "OwnPropertyKeys", world, outcome{answer: true, cost: 1, deep: 1}, func(h *heap.Heap) (any, error) {
			l, err := h.OwnPropertyKeys(o)
			if err != nil {
				return l != nil, err
			}
			return slices.Equal(l, want), nil
		})
	}
}

// The methods that are not turned say what they say of an ordinary object.
func TestOtherMethods(t *testing.T) {
	proto := func(o int, v api.Value) func(h *heap.Heap) (any, error) {
		return func(h *heap.Heap) (any, error) { return h.SetPrototypeOf(o, v) }
	}
	once := func(answer any, end func(m *moment)) outcome { return outcome{answer, 1, 1, end} }
	for o, v := range map[int]api.Value{2: null(), 4: ref(2), 6: ref(5), 8: null()} {
		open := o != 8
		plays(t, "GetPrototypeOf", world, once(v, nil), func(h *heap.Heap) (any, error) { return h.GetPrototypeOf(o) })
		plays(t, "SetPrototypeOf what it is", world, once(true, nil), proto(o, v))
		plays(t, "SetPrototypeOf itself", world, once(false, nil), proto(o, ref(o)))
		plays(t, "SetPrototypeOf", world, once(open, func(m *moment) {
			if open {
				m.shapes[o-1].Proto = ref(1)
			}
		}), proto(o, ref(1)))
		plays(t, "IsExtensible", world, once(open, nil), func(h *heap.Heap) (any, error) { return h.IsExtensible(o) })
		plays(t, "PreventExtensions", world, once(true, func(m *moment) { m.shapes[o-1].Extensible = false }), func(h *heap.Heap) (any, error) { return h.PreventExtensions(o) })
	}
	plays(t, "SetPrototypeOf round", world, once(false, nil), proto(2, ref(3)))
	plays(t, "SetPrototypeOf round", world, once(false, nil), proto(2, ref(4)))
	plays(t, "SetPrototypeOf on", world, once(true, func(m *moment) { m.shapes[3].Proto = ref(7) }), proto(4, ref(7)))
}

// 7.4: a String object can neither be called nor constructed; that costs nothing.
func TestCallAndConstruct(t *testing.T) {
	h := world(t)
	before := now(h)
	for _, o := range []int{2, 4, 6, 8} {
		if v, err := h.Call(o, null(), nil); v != (api.Value{}) || err != api.ErrKind {
			t.Errorf("Call(%d): %v, %v", o, v, err)
		}
		if n, err := h.Construct(o, nil, o); n != 0 || err != api.ErrKind {
			t.Errorf("Construct(%d): %d, %v", o, n, err)
		}
		if h.Callable(ref(o)) || h.Constructor(ref(o)) {
			t.Errorf("%d can be called", o)
		}
	}
	if h.Fuel() != 100 || !sameMoment(now(h), before) {
		t.Errorf("%d left", h.Fuel())
	}
}

// Objects of other classes whose prototype is a String object, and String objects whose prototype is one of these.
func TestOtherClasses(t *testing.T) {
	h := world(t)
	l, err := array.Of(h, ref(4), []api.Value{num(1)})
	if err != nil {
		t.Fatal(err)
	}
	tells(t, h, l, at(0), num(1))
	tells(t, h, l, at(1), text(high))
	tells(t, h, l, at(3), undefined())
	tells(t, h, l, str("length"), num(1))
	for k, want := range map[api.Key]bool{at(0): true, at(1): false, at(2): false, at(3): true} { // units stand in the way of the array's own
		if ok, err := h.Set(l, k, num(9), ref(l)); ok != want || err != nil {
			t.Errorf("Set(%v): %v, %v", k, ok, err)
		}
	}
	tells(t, h, l, str("length"), num(4))
	b, _ := typed.Buffer(h, null(), 4)
	w, err := typed.New(h, ref(2), b, api.TUint8, 0, 1)
	if err != nil {
		t.Fatal(err)
	}
	tells(t, h, w, at(1), undefined()) // a number in disguise is nobody's
	tells(t, h, w, str("length"), num(2))
	s := of(t, h, ref(w), "z")
	tells(t, h, s, at(0), text("z"))
	tells(t, h, s, at(1), undefined())
	h.Refuel(100)
	if ok, err := h.Set(s, at(0), num(5), ref(w)); ok || err != nil {
		t.Errorf("Set: %v, %v", ok, err)
	}
	if ok, err := h.Set(w, at(0), num(5), ref(s)); ok || err != nil {
		t.Errorf("Set: %v, %v", ok, err)
	}
	s = of(t, h, ref(l), "z")
	tells(t, h, s, at(1), text(high))
	tells(t, h, s, str("length"), num(1))
}
