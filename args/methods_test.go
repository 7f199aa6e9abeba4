package args_test

// 13.5, and what all thirteen methods say of an index that is tied, and of one that is not.

import (
	"slices"
	"testing"

	"cameo/api"
	"cameo/heap"
)

// world is a heap with the objects 1 (ordinary, empty), 2 (mapped: a, b with 1, 2, 3), 3 (ordinary, of 2), 4 (mapped: a with 10), 5 (unmapped with 20), 6 (ordinary, with 0 and 2 as 30 and 40).
func world(t *testing.T) *heap.Heap {
	t.Helper()
	h := newHeap(t, 9, 100, 9)
	made(t, h, null())
	mapped(t, h, "ab", numbers(3)...)
	made(t, h, ref(2))
	mapped(t, h, "a", num(10))
	unmapped(t, h, num(20))
	made(t, h, null())
	define(t, h, 6, str("0"), data(num(30), "wec"))
	define(t, h, 6, str("2"), data(num(40), "wec"))
	return h
}

// outcome is what an act must come to: its answer and cost, and how deep it goes; what it changes once so many methods are entered, and what at the end.
type outcome struct {
	answer     any
	cost, deep int
	entered    int
	early, end func(m *moment)
}

// put writes a value into what a moment tells of an object's key, which comes behind all, if it is new.
func (m *moment) put(o int, k string, v api.Value) {
	l := &m.shapes[o-1].Props
	at := slices.IndexFunc(*l, func(p api.Prop) bool { return p.Key == str(k) })
	if at < 0 {
		*l = append(*l, api.Prop{Key: str(k), Desc: data(v, "wec")})
		return
	}
	(*l)[at].Desc.Value = v
}

// tied writes a value into an index that is tied, and into its parameter.
func (m *moment) tied(o, i int, v api.Value) {
	m.put(o, string(rune('0'+i)), v)
	m.slots[o-1][i].value = v
}

// plays holds an act against its outcome, with each fuel up to what it needs, and more, and with each depth.
func plays(t *testing.T, name string, build func(t *testing.T) *heap.Heap, want outcome, act func(h *heap.Heap) (any, error)) {
	t.Helper()
	for fuel := range want.cost + 3 {
		h := build(t)
		h.Refuel(fuel)
		ends(t, name, h, want, fuel, act)
	}
	for room := 1; room <= want.deep; room++ {
		shallow(t, name, build(t), want, room, act)
	}
}

// ends makes an act, and holds what it came to against its outcome, or a stop for fuel.
func ends(t *testing.T, name string, h *heap.Heap, want outcome, fuel int, act func(h *heap.Heap) (any, error)) {
	t.Helper()
	m, answer, rest := now(h), want.answer, fuel-want.cost
	var stop error
	if want.early != nil && fuel >= want.entered {
		want.early(&m)
	}
	if fuel < want.cost {
		stop, rest, answer = api.ErrFuel, 0, nothing(want.answer)
	} else if want.end != nil {
		want.end(&m)
	}
	if got, err := act(h); got != answer || err != stop || h.Fuel() != rest {
		t.Errorf("%s, fuel %d: %v, %v, %d left; want %v, %v, %d left", name, fuel, got, err, h.Fuel(), answer, stop, rest)
	}
	if got := now(h); !sameMoment(got, m) {
		t.Errorf("%s, fuel %d: left %v; want %v", name, fuel, got, m)
	}
}

func nothing(answer any) any {
	if _, ok := answer.(bool); ok {
		return false
	}
	return api.Value{}
}

// shallow makes an act within functions that call one another, so that there is no more room than that.
func shallow(t *testing.T, name string, h *heap.Heap, want outcome, room int, act func(h *heap.Heap) (any, error)) {
	t.Helper()
	h.Refuel(1000)
	left := 9 - room
	var f api.Value
	f = addNative(t, h, func(h *heap.Heap, this api.Value, given []api.Value) (api.Value, error) {
		if left--; left > 0 {
			return h.Call(f.Id, this, given)
		}
		if room >= want.deep {
			h.Refuel(want.cost)
			ends(t, name, h, want, want.cost, act)
			return null(), nil
		}
		m := now(h)
		if want.early != nil && room >= want.entered {
			want.early(&m)
		}
		if got, err := act(h); got != nothing(want.answer) || err != api.ErrDepth {
			t.Errorf("%s, room %d: %v, %v", name, room, got, err)
		}
		if got := now(h); !sameMoment(got, m) {
			t.Errorf("%s, room %d: left %v; want %v", name, room, got, m)
		}
		return null(), nil
	})
	if _, err := h.Call(f.Id, null(), nil); err != nil {
		t.Fatal(err)
	}
}

func getting(o int, k string, receiver api.Value) func(h *heap.Heap) (any, error) {
	return func(h *heap.Heap) (any, error) { return h.Get(o, str(k), receiver) }
}

func setting(o int, k string, v, receiver api.Value) func(h *heap.Heap) (any, error) {
	return func(h *heap.Heap) (any, error) { return h.Set(o, str(k), v, receiver) }
}

func deleting(o int, k string) func(h *heap.Heap) (any, error) {
	return func(h *heap.Heap) (any, error) { return h.Delete(o, str(k)) }
}

func receivers() []api.Value {
	return append(plain(), ref(1), ref(2), ref(3), ref(4), ref(5), ref(6))
}

// 13.5: Get does not ask who the receiver is, nor anything else; a prototype's tie is told, too.
func TestGet(t *testing.T) {
	for _, receiver := range receivers() {
		for k, want := range map[string]api.Value{"0": num(1), "1": num(2), "2": num(3), "3": undefined(), "length": num(3), "callee": null(), "a": undefined(), "00": undefined()} {
			plays(t, "13.5 Get "+k, world, outcome{answer: want, cost: 1, deep: 1}, getting(2, k, receiver))
			plays(t, "13.5 Get "+k+" by a prototype", world, outcome{answer: want, cost: 2, deep: 2}, getting(3, k, receiver))
		}
		changed := func(t *testing.T) *heap.Heap {
			h := world(t)
			give(t, h, 2, "a", text("new"))
			return h
		}
		plays(t, "13.5 Get of a parameter", changed, outcome{answer: text("new"), cost: 1, deep: 1}, getting(2, "0", receiver))
		plays(t, "13.5 Get of a parameter by a prototype", changed, outcome{answer: text("new"), cost: 2, deep: 2}, getting(3, "0", receiver))
	}
}

// 13.5: Set of a tied index on the object itself: the parameter has the value ahead of anything else, though fuel, or room, may end.
func TestSetOnItself(t *testing.T) {
	for _, v := range append(plain(), ref(1), ref(2)) {
		for i, k := range []string{"0", "1"} {
			plays(t, "13.5 Set "+k, world, outcome{answer: true, cost: 3, deep: 2, entered: 1, early: func(m *moment) { m.tied(2, i, v) }}, setting(2, k, v, ref(2)))
		}
		plays(t, "13.5 Set 2", world, outcome{answer: true, cost: 3, deep: 2, end: func(m *moment) { m.put(2, "2", v) }}, setting(2, "2", v, ref(2)))
		plays(t, "13.5 Set 3", world, outcome{answer: true, cost: 3, deep: 2, end: func(m *moment) { m.put(2, "3", v) }}, setting(2, "3", v, ref(2)))
	}
}

// 13.5: of what is tied and not enumerable, or not configurable, too, and where the object is not extensible.
func TestSetOfEveryTied(t *testing.T) {
	for _, flags := range []string{"wec", "we", "wc", "w"} {
		build := func(t *testing.T) *heap.Heap {
			h := world(t)
			define(t, h, 2, str("0"), data(num(1), flags))
			shut(t, h, 2)
			return h
		}
		plays(t, "13.5 Set", build, outcome{answer: true, cost: 3, deep: 2, entered: 1, early: func(m *moment) { m.tied(2, 0, num(7)) }}, setting(2, "0", num(7), ref(2)))
		plays(t, "13.5 Set of what is not there", build, outcome{answer: false, cost: 3, deep: 2}, setting(2, "3", num(7), ref(2)))
	}
}

// 13.5: with another receiver the parameter stays, and the receiver is given the value as its own methods have it.
func TestSetOnAnother(t *testing.T) {
	v := num(7)
	for _, k := range []string{"0", "2"} { // tied, and not tied
		for _, o := range []int{2, 3} { // itself, and by a prototype
			more := o - 2
			end := func(to int) outcome {
				return outcome{answer: true, cost: 3 + more, deep: 2 + more, end: func(m *moment) { m.put(to, k, v) }}
			}
			plays(t, "13.5 an empty receiver", world, end(1), setting(o, k, v, ref(1)))
			plays(t, "13.5 a child as the receiver", world, end(3), setting(o, k, v, ref(3)))
			plays(t, "13.5 an unmapped receiver", world, end(5), setting(o, k, v, ref(5)))
			plays(t, "13.5 a receiver that has it", world, end(6), setting(o, k, v, ref(6)))
			for _, receiver := range plain() {
				plays(t, "13.5 no object", world, outcome{answer: false, cost: 1 + more, deep: 1 + more}, setting(o, k, v, receiver))
			}
		}
	}
	// Another mapped one: its own parameter becomes that, once its DefineOwnProperty is through.
	other := outcome{answer: true, cost: 3, deep: 2, end: func(m *moment) { m.tied(4, 0, v) }}
	plays(t, "13.5 another mapped one", world, other, setting(2, "0", v, ref(4)))
	plays(t, "13.5 an ordinary object, on a mapped one", world, outcome{answer: true, cost: 3, deep: 2, end: func(m *moment) { m.tied(2, 0, v) }}, setting(6, "0", v, ref(2)))
	plays(t, "13.5 an empty object, on a mapped one", world, outcome{answer: true, cost: 3, deep: 2, end: func(m *moment) { m.tied(2, 1, v) }}, setting(1, "1", v, ref(2)))
	// By a child, on the object itself: it is this object that is asked then.
	plays(t, "13.5 by a child on itself", world, outcome{answer: true, cost: 4, deep: 3, entered: 2, early: func(m *moment) { m.tied(2, 0, v) }}, setting(3, "0", v, ref(2)))
}

// 13.5: what stands between has its own say: a setter ahead of the object, what is read-only, and a receiver whose own property is none to be written.
func TestSetStandsBetween(t *testing.T) {
	v := num(7)
	build := func(t *testing.T) *heap.Heap {
		h := world(t)
		f := addNative(t, h, func(*heap.Heap, api.Value, []api.Value) (api.Value, error) { return null(), nil })
		define(t, h, 3, str("0"), accessor(undefined(), f, "ec"))
		define(t, h, 3, str("1"), accessor(f, undefined(), "ec"))
		define(t, h, 4, str("0"), data(num(10), "ec"))
		define(t, h, 6, str("0"), data(num(30), "ec"))
		define(t, h, 6, str("1"), accessor(f, f, "ec"))
		return h
	}
	for name, c := range map[string]struct {
		o        int
		k        string
		receiver int
		want     outcome
	}{
		"a setter ahead of it":              {3, "0", 2, outcome{answer: true, cost: 2, deep: 2}},
		"no setter ahead of it":             {3, "1", 2, outcome{answer: false, cost: 1, deep: 1}},
		"read-only ahead of it":             {6, "0", 2, outcome{answer: false, cost: 1, deep: 1}},
		"a receiver with an accessor":       {2, "1", 6, outcome{answer: false, cost: 2, deep: 2}},
		"a receiver that is read-only":      {2, "0", 6, outcome{answer: false, cost: 2, deep: 2}},
		"a mapped receiver, loosened":       {2, "0", 4, outcome{answer: false, cost: 2, deep: 2}},
		"loosened, on itself":               {4, "0", 4, outcome{answer: false, cost: 1, deep: 1}},
		"loosened, on a mapped one":         {4, "0", 2, outcome{answer: false, cost: 1, deep: 1}},
		"by one that has none, on loosened": {1, "0", 4, outcome{answer: false, cost: 2, deep: 2}},
	} {
		plays(t, "13.5 "+name, build, c.want, setting(c.o, c.k, v, ref(c.receiver)))
	}
}

// 13.5
func TestDelete(t *testing.T) {
	gone := func(o int, k string, tied int) func(m *moment) {
		return func(m *moment) {
			l := &m.shapes[o-1].Props
			*l = slices.DeleteFunc(*l, func(p api.Prop) bool { return p.Key == str(k) })
			if tied >= 0 {
				m.slots[o-1][tied].index = -1
			}
		}
	}
	for i, k := range []string{"0", "1"} {
		plays(t, "13.5 Delete "+k, world, outcome{answer: true, cost: 1, deep: 1, end: gone(2, k, i)}, deleting(2, k))
		fixed := func(t *testing.T) *heap.Heap {
			h := world(t)
			define(t, h, 2, str(k), api.Desc{Configurable: api.No})
			return h
		}
		plays(t, "13.5 Delete of what is fixed", fixed, outcome{answer: false, cost: 1, deep: 1}, deleting(2, k))
		shutUp := func(t *testing.T) *heap.Heap {
			h := world(t)
			shut(t, h, 2)
			return h
		}
		plays(t, "13.5 Delete of one that is not extensible", shutUp, outcome{answer: true, cost: 1, deep: 1, end: gone(2, k, i)}, deleting(2, k))
	}
	for _, k := range []string{"2", "length", "callee"} {
		plays(t, "13.5 Delete "+k, world, outcome{answer: true, cost: 1, deep: 1, end: gone(2, k, -1)}, deleting(2, k))
	}
	for _, k := range []string{"3", "00", "a", ""} {
		plays(t, "13.5 Delete "+k, world, outcome{answer: true, cost: 1, deep: 1}, deleting(2, k))
	}
	plays(t, "13.5 Delete of a child", world, outcome{answer: true, cost: 1, deep: 1}, deleting(3, "0"))
}

// The methods that are not turned say what they say of an ordinary object, and loosen nothing.
func TestOtherMethods(t *testing.T) {
	for name, c := range map[string]struct {
		want outcome
		act  func(h *heap.Heap) (any, error)
	}{
		"GetPrototypeOf":       {outcome{answer: null(), cost: 1, deep: 1}, func(h *heap.Heap) (any, error) { return h.GetPrototypeOf(2) }},
		"SetPrototypeOf":       {outcome{answer: true, cost: 1, deep: 1, end: func(m *moment) { m.shapes[1].Proto = ref(4) }}, func(h *heap.Heap) (any, error) { return h.SetPrototypeOf(2, ref(4)) }},
		"SetPrototypeOf round": {outcome{answer: false, cost: 1, deep: 1}, func(h *heap.Heap) (any, error) { return h.SetPrototypeOf(2, ref(3)) }},
		"IsExtensible":         {outcome{answer: true, cost: 1, deep: 1}, func(h *heap.Heap) (any, error) { return h.IsExtensible(2) }},
		"PreventExtensions":    {outcome{answer: true, cost: 1, deep: 1, end: func(m *moment) { m.shapes[1].Extensible = false }}, func(h *heap.Heap) (any, error) { return h.PreventExtensions(2) }},
		"HasProperty tied":     {outcome{answer: true, cost: 1, deep: 1}, func(h *heap.Heap) (any, error) { return h.HasProperty(2, str("0")) }},
		"HasProperty":          {outcome{answer: true, cost: 1, deep: 1}, func(h *heap.Heap) (any, error) { return h.HasProperty(2, str("2")) }},
		"HasProperty none":     {outcome{answer: false, cost: 1, deep: 1}, func(h *heap.Heap) (any, error) { return h.HasProperty(2, str("3")) }},
		"HasProperty by child": {outcome{answer: true, cost: 2, deep: 2}, func(h *heap.Heap) (any, error) { return h.HasProperty(3, str("0")) }},
	} {
		plays(t, "13.5 "+name, world, c.want, c.act)
	}
}

// What GetOwnProperty tells of a tied index is what lies there with the parameter's value, and each key is told once.
func TestOwnProperties(t *testing.T) {
	h := world(t)
	for _, flags := range []string{"wec", "wc", "w"} {
		define(t, h, 2, str("0"), data(text("ahead"), flags))
		for _, v := range append(plain(), ref(2)) {
			give(t, h, 2, "a", v)
			h.Refuel(2)
			d, ok, err := h.GetOwnProperty(2, str("0"))
			if !sameDesc(d, data(v, flags)) || !ok || err != nil || h.Fuel() != 1 {
				t.Errorf("GetOwnProperty: %v, %v, %v", d, ok, err)
			}
			keys, err := h.OwnPropertyKeys(2)
			if !slices.Equal(keys, []api.Key{str("0"), str("1"), str("2"), str("length"), str("callee")}) || err != nil || h.Fuel() != 0 {
				t.Errorf("OwnPropertyKeys: %v, %v", keys, err)
			}
			tells(t, h, 2, str("0"), data(v, flags))
		}
	}
	h.Refuel(1)
	if d, ok, err := h.GetOwnProperty(3, str("0")); d != (api.Desc{}) || ok || err != nil {
		t.Errorf("a child's own: %v, %v, %v", d, ok, err)
	}
	if d, ok, err := h.GetOwnProperty(2, str("0")); d != (api.Desc{}) || ok || err != api.ErrFuel {
		t.Errorf("without fuel: %v, %v, %v", d, ok, err)
	}
}

// An arguments object can be neither called nor constructed; what is refused ahead of being entered changes nothing.
func TestRefusedMethods(t *testing.T) {
	h := world(t)
	before := now(h)
	for _, o := range []int{2, 5} {
		if v, err := h.Call(o, null(), nil); v != (api.Value{}) || err != api.ErrKind {
			t.Errorf("Call: %v, %v", v, err)
		}
		if n, err := h.Construct(o, nil, o); n != 0 || err != api.ErrKind {
			t.Errorf("Construct: %v, %v", n, err)
		}
		for _, v := range append(broken(), ref(9)) {
			want := h.Check(v)
			if ok, err := h.Set(o, str("0"), v, ref(o)); ok || err != want {
				t.Errorf("Set: %v, %v", ok, err)
			}
			if ok, err := h.Set(o, str("0"), num(7), v); ok || err != want {
				t.Errorf("Set: %v, %v", ok, err)
			}
			if got, err := h.Get(o, str("0"), v); got != (api.Value{}) || err != want {
				t.Errorf("Get: %v, %v", got, err)
			}
			if v == (api.Value{}) {
				continue // a descriptor without a Value is one
			}
			if ok, err := h.DefineOwnProperty(o, str("0"), api.Desc{Value: v, Writable: api.No}); ok || err != want {
				t.Errorf("DefineOwnProperty: %v, %v", ok, err)
			}
		}
		for _, d := range []api.Desc{{Get: ref(1)}, {Set: ref(2)}, {Get: undefined(), Value: num(7)}} {
			if ok, err := h.DefineOwnProperty(o, str("0"), d); ok || err != api.ErrKind && err != api.ErrValue {
				t.Errorf("DefineOwnProperty: %v, %v", ok, err)
			}
		}
	}
	if !sameMoment(now(h), before) || h.Fuel() != 100 {
		t.Error("what is refused changes something")
	}
}
