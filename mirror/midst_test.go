package mirror_test

// Programs that run in the midst: what a getter, a trap or a method does to the object that is being looked at, to its keys and its prototype, and to what is being made of them.

import (
	"fmt"
	"slices"
	"testing"

	"cameo/api"
	"cameo/array"
	"cameo/call"
	"cameo/heap"
	"cameo/mirror"
	"cameo/proxy"
)

// midst is a heap whose object 1 is looked at, 2 its prototype, 3 another one, 4 its attributes. A getter g of 1 runs a program, each time that it is called.
type midst struct {
	t    *testing.T
	h    *heap.Heap
	runs int
}

func newMidst(t *testing.T, program func(m *midst)) *midst {
	t.Helper()
	m := &midst{t: t, h: newHeap(t, 60, 10000, 20)}
	h := m.h
	object(t, h, null())
	object(t, h, null(), has("above", num(9)))
	lay(t, h, 1, has("a", num(1)))
	ok, err := heap.Ordinary{}.SetPrototypeOf(h, 1, ref(2))
	if !ok || err != nil {
		t.Fatal(ok, err)
	}
	object(t, h, null(), has("z", num(26)))
	object(t, h, null(), has("value", num(4)), has("enumerable", yes()))
	f := addNative(t, h, func(api.Value, []api.Value) (api.Value, error) {
		m.runs++
		program(m)
		return num(7), nil
	})
	lay(t, h, 1, got("g", f), has("b", num(2)), has("c", num(3)))
	return m
}

// does is something that a program does, which must be done.
func (m *midst) does(name string, v ...api.Value) {
	m.t.Helper()
	if s, err := ask(name, v...).played(m.h); s != "true" || err != nil {
		m.t.Errorf("%s %v: %s, %v", name, v, s, err)
	}
}

func (m *midst) deletes(o int, k string) { m.does("DeleteProperty", ref(o), text(k)) }
func (m *midst) sets(o int, k string, x float64) {
	m.does("Set", ref(o), text(k), num(x), ref(o))
}

// hides makes a property one that is not enumerable.
func (m *midst) hides(o int, k string) {
	if ok, err := m.h.DefineOwnProperty(o, str(k), api.Desc{Enumerable: api.No}); !ok || err != nil {
		m.t.Error(ok, err)
	}
}

// tells holds the values of an array against what they must be; of pairs, one behind the other.
func (m *midst) tells(what string, v api.Value, err error, want ...api.Value) {
	m.t.Helper()
	l := values(m.t, m.h, v, err)
	if what == "Entries" {
		var all []api.Value
		for _, e := range l {
			all = append(all, values(m.t, m.h, e, nil)...)
		}
		l = all
	}
	if !sameValues(l, want) {
		m.t.Errorf("22.8: %s: %v; want %v", what, l, want)
	}
}

// What the getter g does to the keys behind it: one that is gone, or hidden, is passed over; a new one is not met; a value is what it is when its turn comes.
func TestListsInTheMidst(t *testing.T) {
	one, seven := num(1), num(7)
	for _, row := range []struct {
		program func(m *midst)
		want    []api.Value // the keys and values that are told
	}{
		{func(*midst) {}, []api.Value{text("a"), one, text("g"), seven, text("b"), num(2), text("c"), num(3)}},
		{func(m *midst) { m.deletes(1, "b") }, []api.Value{text("a"), one, text("g"), seven, text("c"), num(3)}},
		{func(m *midst) { m.deletes(1, "c"); m.deletes(1, "b") }, []api.Value{text("a"), one, text("g"), seven}},
		{func(m *midst) { m.deletes(1, "a") }, []api.Value{text("a"), one, text("g"), seven, text("b"), num(2), text("c"), num(3)}},
		{func(m *midst) { m.hides(1, "b") }, []api.Value{text("a"), one, text("g"), seven, text("c"), num(3)}},
		{func(m *midst) { m.sets(1, "c", 33); m.sets(1, "a", 11) }, []api.Value{text("a"), one, text("g"), seven, text("b"), num(2), text("c"), num(33)}},
		{func(m *midst) { m.sets(1, "d", 4); m.sets(1, "0", 5) }, []api.Value{text("a"), one, text("g"), seven, text("b"), num(2), text("c"), num(3)}},
		{func(m *midst) { m.deletes(1, "b"); m.sets(1, "b", 22) }, []api.Value{text("a"), one, text("g"), seven, text("b"), num(22), text("c"), num(3)}},
		{func(m *midst) { m.deletes(1, "g") }, []api.Value{text("a"), one, text("g"), seven, text("b"), num(2), text("c"), num(3)}},
		{func(m *midst) { m.does("SetPrototypeOf", ref(1), ref(3)) }, []api.Value{text("a"), one, text("g"), seven, text("b"), num(2), text("c"), num(3)}},
		{func(m *midst) { m.deletes(1, "b"); m.sets(2, "b", 5) }, []api.Value{text("a"), one, text("g"), seven, text("c"), num(3)}},
		{func(m *midst) { m.does("PreventExtensions", ref(1)) }, []api.Value{text("a"), one, text("g"), seven, text("b"), num(2), text("c"), num(3)}},
	} {
		m := newMidst(t, row.program)
		v, err := mirror.Entries(m.h, ref(1))
		m.tells("Entries", v, err, row.want...)
		m = newMidst(t, row.program)
		var evens, odds []api.Value
		for i, v := range row.want {
			if i%2 == 0 {
				evens = append(evens, v)
			} else {
				odds = append(odds, v)
			}
		}
		v, err = mirror.Values(m.h, ref(1))
		m.tells("Values", v, err, odds...)
		m = newMidst(t, row.program)
		o := object(t, m.h, null())
		if v, err := mirror.Assign(m.h, ref(o), []api.Value{ref(1)}); v != ref(o) || err != nil {
			t.Errorf("22.7: %v, %v", v, err)
		}
		if s := shapeOf(t, m.h, o); len(s.Props) != len(evens) {
			t.Errorf("22.7: %v; want %v", s, row.want)
		} else {
			for i, p := range s.Props {
				if !sameProp(p, has(evens[i].Str, odds[i])) {
					t.Errorf("22.7: %v; want %v", s, row.want)
				}
			}
		}
		m = newMidst(t, row.program) // Keys, and Descriptors, do not call the getter
		v, err = mirror.Keys(m.h, ref(1))
		m.tells("Keys", v, err, text("a"), text("g"), text("b"), text("c"))
		if _, err := mirror.Descriptors(m.h, ref(1)); err != nil || m.runs != 0 {
			t.Errorf("22.6: %v, %d runs", err, m.runs)
		}
	}
}

// A program that a trap runs ahead of the keys being told, or of a property, or behind either.
func TestTrapsInTheMidst(t *testing.T) {
	all := []api.Value{text("a"), num(1), text("b"), num(2), text("c"), num(3)}
	gone := []api.Value{text("a"), num(1), text("c"), num(3)}
	for _, row := range []struct {
		trap   string
		turn   int // of the trap, from 1 on
		behind bool
		want   []api.Value // nil: a TypeError
	}{
		{"ownKeys", 1, false, gone}, {"ownKeys", 1, true, gone},
		{"getOwnPropertyDescriptor", 1, false, gone}, {"getOwnPropertyDescriptor", 1, true, gone},
		{"getOwnPropertyDescriptor", 2, false, gone}, {"getOwnPropertyDescriptor", 2, true, []api.Value{text("a"), num(1), text("b"), undefined(), text("c"), num(3)}},
		{"get", 1, false, gone}, {"get", 1, true, gone}, {"get", 2, false, []api.Value{text("a"), num(1), text("b"), undefined(), text("c"), num(3)}}, {"get", 2, true, all}, {"get", 3, false, all},
	} {
		h := newHeap(t, 200, 10000, 20)
		o := object(t, h, null(), has("a", num(1)), has("b", num(2)), has("c", num(3)))
		on, turns := forwards(h, row.trap), 0
		p := trapping(t, h, o, map[string]does{row.trap: func(this api.Value, l []api.Value) (api.Value, error) {
			turns++
			do := func() {
				if turns == row.turn {
					ask("DeleteProperty", ref(o), text("b")).is(t, h, 1, true, nil)
				}
			}
			if !row.behind {
				do()
			}
			v, err := on(this, l)
			if row.behind {
				do()
			}
			return v, err
		}})
		m := &midst{t: t, h: h}
		v, err := mirror.Entries(h, ref(p))
		m.tells("Entries", v, err, row.want...)
	}
}

// DefineProperties asks for all ahead of defining any: what a program does to the object meanwhile, and to the attributes that were asked already.
func TestDefinePropertiesInTheMidst(t *testing.T) {
	for _, row := range []struct {
		program func(h *heap.Heap)
		want    []api.Prop
		wrong   error
	}{
		{func(*heap.Heap) {}, []api.Prop{is("a", data(num(4), "e")), is("g", data(num(5), "")), is("b", data(num(4), "e"))}, nil},
		{func(h *heap.Heap) { h.DefineOwnProperty(1, str("z"), data(num(0), "wec")) }, []api.Prop{has("z", num(0)), is("a", data(num(4), "e")), is("g", data(num(5), "")), is("b", data(num(4), "e"))}, nil},
		{func(h *heap.Heap) { h.Set(4, str("value"), num(44), ref(4)) }, []api.Prop{is("a", data(num(4), "e")), is("g", data(num(5), "")), is("b", data(num(44), "e"))}, nil},
		{func(h *heap.Heap) { h.Delete(4, str("enumerable")) }, []api.Prop{is("a", data(num(4), "e")), is("g", data(num(5), "")), is("b", data(num(4), ""))}, nil},
		{func(h *heap.Heap) { h.Delete(2, str("b")); h.Delete(2, str("a")) }, []api.Prop{is("a", data(num(4), "e")), is("g", data(num(5), ""))}, nil},
		{func(h *heap.Heap) { h.PreventExtensions(1) }, nil, typeError()},
		{func(h *heap.Heap) { h.DefineOwnProperty(1, str("g"), data(num(0), "")) }, []api.Prop{is("g", data(num(0), "")), is("a", data(num(4), "e"))}, typeError()},
		{func(h *heap.Heap) { h.DefineOwnProperty(2, str("b"), data(num(0), "e")) }, nil, typeError()},
	} {
		h := newHeap(t, 20, 1000, 9)
		object(t, h, null())
		object(t, h, null(), has("a", ref(4)))
		f := addNative(t, h, func(api.Value, []api.Value) (api.Value, error) {
			row.program(h)
			return ref(5), nil
		})
		object(t, h, null(), has("value", num(4)), has("enumerable", yes()))
		object(t, h, null(), has("value", num(5)))
		lay(t, h, 2, got("g", f), has("b", ref(4)))
		if err := mirror.DefineProperties(h, ref(1), ref(2)); !sameError(err, row.wrong) {
			t.Errorf("22.5: %v; want %v", err, row.wrong)
		}
		if s := shapeOf(t, h, 1); !slices.EqualFunc(s.Props, row.want, sameProp) {
			t.Errorf("22.5: %v; want %v", s, row.want)
		}
	}
}

// Assign: a target that is fixed in the midst throws at the next property; what was put stays.
func TestAssignInTheMidst(t *testing.T) {
	for _, row := range []struct {
		program func(m *midst)
		want    []api.Prop
		wrong   error
	}{
		{func(m *midst) { m.does("PreventExtensions", ref(3)) }, []api.Prop{has("z", num(26)), has("a", num(1))}, typeError()},
		{func(m *midst) { m.h.DefineOwnProperty(3, str("a"), api.Desc{Writable: api.No}) }, []api.Prop{has("z", num(26)), is("a", data(num(1), "ec")), has("g", num(7)), has("b", num(2)), has("c", num(3))}, nil},
		{func(m *midst) { m.h.DefineOwnProperty(3, str("b"), data(num(0), "c")) }, []api.Prop{has("z", num(26)), has("a", num(1)), is("b", data(num(0), "c")), has("g", num(7))}, typeError()},
		{func(m *midst) { m.h.DefineOwnProperty(3, str("g"), accessor(undefined(), undefined(), "ec")) }, []api.Prop{has("z", num(26)), has("a", num(1)), is("g", accessor(undefined(), undefined(), "ec"))}, typeError()},
		{func(m *midst) { m.deletes(3, "a") }, []api.Prop{has("z", num(26)), has("g", num(7)), has("b", num(2)), has("c", num(3))}, nil},
		{func(m *midst) { m.does("SetPrototypeOf", ref(3), ref(1)) }, []api.Prop{has("z", num(26)), has("a", num(1))}, typeError()}, // 1 has a getter g, and no setter
	} {
		m := newMidst(t, row.program)
		if _, err := mirror.Assign(m.h, ref(3), []api.Value{null(), ref(1), undefined()}); !sameError(err, row.wrong) || m.runs != 1 {
			t.Errorf("22.7: %v, %d runs; want %v", err, m.runs, row.wrong)
		}
		if s := shapeOf(t, m.h, 3); !slices.EqualFunc(s.Props, row.want, sameProp) {
			t.Errorf("22.7: %v; want %v", s, row.want)
		}
	}
}

// What a program answers or does while a key is asked for: the method behind it finds the object as it is then.
func TestKeyInTheMidst(t *testing.T) {
	asks := func(do func(h *heap.Heap)) (*heap.Heap, api.Value) {
		h := newHeap(t, 20, 1000, 9)
		object(t, h, null(), has("a", num(1)))
		f := addNative(t, h, func(api.Value, []api.Value) (api.Value, error) {
			do(h)
			return text("a"), nil
		})
		object(t, h, null(), has("value", num(8)))
		return h, ref(object(t, h, null(), has("toString", ref(f))))
	}
	h, k := asks(func(h *heap.Heap) { h.Delete(1, str("a")) })
	ask("HasOwn", ref(1), k).is(t, h, 5, false, nil)
	h, k = asks(func(h *heap.Heap) { h.Delete(1, str("a")) })
	ask("Descriptor", ref(1), k).is(t, h, 5, undefined(), nil)
	h, k = asks(func(h *heap.Heap) { h.Set(1, str("a"), num(2), ref(1)) })
	ask("Get", ref(1), k, ref(1)).is(t, h, 3+3+1, num(2), nil)
	h, k = asks(func(h *heap.Heap) { h.PreventExtensions(1); h.Delete(1, str("a")) })
	ask("Set", ref(1), k, num(5), ref(1)).is(t, h, 5+3, false, nil) // Set enters two more of the receiver
	h, k = asks(func(h *heap.Heap) { h.Set(3, str("value"), num(9), ref(3)) })
	ask("DefineProperty", ref(1), k, ref(3)).is(t, h, 3+3+7+1, true, nil) // the attributes are asked behind the key
	looks(t, h, 1, bare(has("a", num(9))))
	h, k = asks(func(h *heap.Heap) { h.DefineOwnProperty(1, str("a"), api.Desc{Configurable: api.No}) })
	ask("DeleteProperty", ref(1), k).is(t, h, 5, false, nil)
	h, k = asks(func(h *heap.Heap) { h.Delete(1, str("a")); h.SetPrototypeOf(1, ref(3)) })
	ask("Has", ref(1), k).is(t, h, 5+2, false, nil)
}

// What a program does while a list is asked for: members are asked for as they are when their turn comes, as many as there were.
func TestListInTheMidst(t *testing.T) {
	h := newHeap(t, 20, 1000, 9)
	var given []api.Value
	f := addNative(t, h, func(_ api.Value, l []api.Value) (api.Value, error) {
		given = slices.Clone(l)
		return num(float64(len(l))), nil
	})
	n, err := array.Of(h, null(), []api.Value{num(1), num(2), num(3), num(4)})
	l := made(t, n, err)
	g := addNative(t, h, func(api.Value, []api.Value) (api.Value, error) {
		h.Set(l, str("length"), num(3), ref(l))
		h.Set(l, str("2"), num(33), ref(l))
		h.Set(l, str("0"), num(11), ref(l))
		return text("got"), nil
	})
	lay(t, h, l, is("1", accessor(ref(g), undefined(), "ec")))
	if v, err := mirror.Apply(h, ref(f), null(), ref(l)); v != num(4) || err != nil || !sameValues(given, []api.Value{num(1), text("got"), num(33), undefined()}) {
		t.Errorf("22.4: %v, %v: %v", v, err, given)
	}
}

// What a program throws, or stops by, in a getter, a setter, a trap, a key: it is what the call comes to, itself.
func TestEndsInTheMidst(t *testing.T) {
	for _, wrong := range append(ends(), api.Errno(77)) {
		h := newHeap(t, 60, 1000, 9)
		f := addNative(t, h, func(api.Value, []api.Value) (api.Value, error) { return api.Value{}, wrong })
		o := object(t, h, null(), has("a", num(1)), is("f", accessor(ref(f), ref(f), "ec")))
		k := object(t, h, null(), has("toString", ref(f)))
		l := object(t, h, null(), has("length", num(1)), got("0", f))
		d := object(t, h, null(), got("set", f))
		q := object(t, h, null(), has("x", ref(d)))
		tag := object(t, h, null(), marked(api.SymToStringTag, accessor(ref(f), undefined(), "")))
		p := trapping(t, h, o, map[string]does{"ownKeys": func(api.Value, []api.Value) (api.Value, error) { return api.Value{}, wrong }})
		v := ref(o)
		for _, x := range []act{
			ask("Values", v), ask("Entries", v), ask("Assign", ref(k), v), ask("Assign", v, v), ask("DefineProperties", v, ref(q)), ask("Create", v, ref(q)),
			ask("Get", v, text("f"), v), ask("Set", v, text("f"), v, v), ask("Apply", ref(f), v, ref(tag)), ask("Apply", ref(f), v, ref(l)), ask("Tag", ref(tag)),
			ask("DefineProperty", v, text("a"), ref(d)), ask("DefineProperty", v, ref(k), v), ask("DeleteProperty", v, ref(k)), ask("Get", v, ref(k), v), ask("Set", v, ref(k), v, v), ask("Has", v, ref(k)), ask("Descriptor", v, ref(k)), ask("HasOwn", v, ref(k)), ask("HasOwn", num(1), ref(k)),
			ask("OwnKeys", ref(p)), ask("Keys", ref(p)), ask("Values", ref(p)), ask("Entries", ref(p)), ask("Names", ref(p)), ask("Symbols", ref(p)), ask("Descriptors", ref(p)), ask("Assign", v, ref(p)), ask("DefineProperties", v, ref(p)), ask("Create", null(), ref(p)),
		} {
			if s, err := x.played(h); s != "" || err != wrong {
				t.Errorf("%v: %s, %v; want %v", x, s, err, wrong)
			}
		}
	}
}

// Where something ends in the midst, what has been done stays done, and what has been made stays made.
func TestLeftInTheMidst(t *testing.T) {
	wrong := thrown(text("boom"))
	h := newHeap(t, 60, 1000, 9)
	f := addNative(t, h, func(api.Value, []api.Value) (api.Value, error) { return api.Value{}, wrong })
	o := object(t, h, null(), has("a", num(1)), has("b", num(2)), is("f", accessor(ref(f), undefined(), "ec")), has("last", num(3)))
	target := object(t, h, null())
	n := h.Len()
	ask("Entries", ref(o)).adds(t, h, 1+2+2+2+1, nil, wrong, listed(text("a"), num(1)), listed(text("b"), num(2)))
	ask("Assign", ref(target), ref(o)).is(t, h, 1+5+5+2+1, nil, wrong)
	looks(t, h, target, bare(has("a", num(1)), has("b", num(2))))
	ask("Assign", yes(), ref(o)).adds(t, h, 1+5+5+2+1, nil, wrong, bare(has("a", num(1)), has("b", num(2))))
	ask("Create", ref(o), ref(o)).adds(t, h, 1+2, nil, typeError(), api.Shape{Class: api.COrdinary, Proto: ref(o), Extensible: true})
	if h.Len() != n+4 {
		t.Errorf("%d objects; want %d", h.Len(), n+4)
	}
}

// A program that asks the same within: each call has a list of its own.
func TestWithin(t *testing.T) {
	var inner []api.Value
	m := newMidst(t, func(m *midst) {
		if m.runs < 4 {
			v, err := mirror.Values(m.h, ref(1))
			inner = append(inner, v)
			m.tells("Values", v, err, num(1), num(7), num(2), num(3))
			m.sets(1, "c", float64(3))
		}
	})
	v, err := mirror.Values(m.h, ref(1))
	m.tells("Values", v, err, num(1), num(7), num(2), num(3))
	if len(inner) != 3 || slices.Contains(inner, v) || inner[0] == inner[1] || m.runs != 4 {
		t.Errorf("%v, %v, %d runs", v, inner, m.runs)
	}
}

// One that does so for ever ends by depth, or by fuel, whichever comes first. The calls themselves are not one deeper.
func TestRoundAndRound(t *testing.T) {
	for _, depth := range []int{1, 2, 5, 20} {
		for fuel := range 60 {
			h := newHeap(t, 2, fuel, depth)
			rounds := 0
			f := addNative(t, h, func(api.Value, []api.Value) (api.Value, error) {
				rounds++
				return mirror.Values(h, ref(2))
			})
			object(t, h, null(), got("g", f))
			// Each round is the keys, GetOwnProperty, Get and Call: four units, two deeper at its end, which only the Call is.
			want, spent := api.ErrDepth, 4*(depth/2)+1
			if depth%2 == 1 {
				spent += 3
			}
			if fuel < spent {
				want, spent = api.ErrFuel, fuel
			}
			ask("Values", ref(2)).is(t, h, spent, nil, want)
			if rounds != min(spent/4, depth/2) {
				t.Errorf("depth %d, fuel %d: %d rounds, %d spent", depth, fuel, rounds, spent)
			}
		}
	}
}

// Behind calls within one another there is less room for what is entered.
func TestDepth(t *testing.T) {
	for within := range 4 {
		for depth := within + 1; depth < within+4; depth++ {
			for _, name := range []string{"Keys", "Values", "Tag", "OwnKeys", "GetPrototypeOf"} {
				h := newHeap(t, 60, 1000, depth)
				o := object(t, h, null(), has("a", num(1)))
				p := proxied(t, h, o, object(t, h, null()))
				var err, deeper error
				do := func() { _, err = ask(name, ref(o)).played(h); _, deeper = ask(name, ref(p)).played(h) }
				for range within {
					inner := do
					f := addNative(t, h, func(api.Value, []api.Value) (api.Value, error) {
						inner()
						return null(), nil
					})
					do = func() {
						if _, err := h.Call(f, null(), nil); err != nil {
							t.Error(err)
						}
					}
				}
				do()
				also := error(nil)
				if depth < within+2 {
					also = api.ErrDepth
				}
				if err != nil || deeper != also {
					t.Errorf("%s within %d, depth %d: %v, %v; want %v", name, within, depth, err, deeper, also)
				}
			}
		}
	}
}

// Bodies of operations in the midst: a getter that takes another property away, and counts on the receiver.
func TestBodies(t *testing.T) {
	h := newHeap(t, 60, 1000, 9)
	object(t, h, null(), has("x", num(5)))
	n, err := call.New(h, null(), []api.Op{{Code: api.OThis}, {Code: api.ODelete, To: 1, A: 0, Key: str("c")}, {Code: api.OGet, To: 2, A: 0, Key: str("a")}, {Code: api.OReturn, A: 2}}, false)
	f := made(t, n, err)
	lay(t, h, 1, has("a", num(1)), got("b", f), has("c", num(3)))
	// The keys; of x and a GetOwnProperty and Get; of b these, the Call, four operations, a Delete and a Get; of c GetOwnProperty alone.
	v, err := mirror.Values(h, ref(1))
	if l := values(t, h, v, err); !sameValues(l, []api.Value{num(5), num(1), num(1)}) || h.Fuel() != 1000-(1+4+9+1) {
		t.Errorf("22.8: %v, %d spent", l, 1000-h.Fuel())
	}
	n, err = call.New(h, null(), []api.Op{{Code: api.OTarget}, {Code: api.OReturn}}, true)
	class := made(t, n, err)
	ask("Construct", ref(class), ref(1), ref(class)).is(t, h, 1+1+1+2, ref(class), nil) // it answers new.target, which is an object
	n, err = call.New(h, null(), []api.Op{{Code: api.OThis}, {Code: api.OThrow}}, true)
	class = made(t, n, err)
	ask("Apply", ref(class), text("thrown"), ref(1)).is(t, h, 1+1+2, nil, thrown(text("thrown")))
	ask("Construct", ref(class), ref(1), ref(f)).is(t, h, 0, nil, typeError())
	ask("Construct", ref(class), ref(1), ref(class)).is(t, h, 1+1+1+2, nil, thrown(ref(h.Len()+1)))
}

// A proxy that is revoked in the midst ends the step as it would have, and throws at the next one.
func TestRevokedInTheMidst(t *testing.T) {
	for _, trap := range []string{"ownKeys", "getOwnPropertyDescriptor", "get"} {
		for _, name := range []string{"Keys", "Values", "Entries", "Descriptors", "Assign", "Names"} {
			h := newHeap(t, 200, 1000, 20)
			o := object(t, h, null(), has("a", num(1)), has("b", num(2)))
			on, p := forwards(h, trap), 0
			p = trapping(t, h, o, map[string]does{trap: func(this api.Value, l []api.Value) (api.Value, error) {
				proxy.Revoke(h, p)
				return on(this, l)
			}})
			x := ask(name, ref(p))
			if name == "Assign" {
				x = ask(name, yes(), ref(p))
			}
			wrong := error(typeError())
			if name == "Names" || trap == "get" && (name == "Keys" || name == "Descriptors") {
				wrong = nil
			}
			if s, err := x.played(h); !sameError(err, wrong) {
				t.Errorf("%v, revoked by %s: %s, %v; want %v", x, trap, s, err, wrong)
			}
		}
	}
	h := newHeap(t, 20, 1000, 20)
	o := object(t, h, null())
	p := trapping(t, h, o, map[string]does{"get": always(text("x"))})
	ask("Tag", ref(p)).is(t, h, 1+1+1+1, "[object x]", nil)
	if e := proxy.Revoke(h, p); e != api.OK {
		t.Error(e)
	}
	ask("Tag", ref(p)).is(t, h, 0, nil, typeError())
	if s := fmt.Sprint(shapeOf(t, h, o).Props); s != "[]" {
		t.Error(s)
	}
}
