package iterate_test

// Array iterators over objects of every class (23.2), and the keys that a for-in loop meets in these (23.9), with proxies in front of them.

import (
	"maps"
	"slices"
	"strconv"
	"strings"
	"testing"

	"cameo/api"
	"cameo/args"
	"cameo/array"
	"cameo/iterate"
	"cameo/key"
	"cameo/namespace"
	"cameo/typed"
)

// sort is what an object of a world tells: its members, the names that are enumerable, and those that its prototypes have behind these.
type sort struct {
	members []api.Value
	keys    string
	above   string
}

// sorts is the objects of a world, of which all can be asked, by their names. (The long array is not gone through to its end.)
func sorts() map[string]sort {
	l := []api.Value{num(7), text("x"), ref(1)}
	zeros := []api.Value{num(0), num(0), num(0)}
	return map[string]sort{
		"base": {nil, "base", ""}, "empty": {nil, "", "base"}, "one": {nil, "a", "base"}, "many": {nil, "0 b a", ""}, "shut": {nil, "a b", "base"}, "sealed": {nil, "a b", "base"}, "frozen": {nil, "a b", "base"}, "child": {nil, "c", "a b base"},
		"function": {nil, "", "base"}, "class": {nil, "", "base"}, "native": {nil, "", ""}, "bound": {nil, "", "base"}, "bound class": {nil, "more", "base"},
		"array": {l, "0 1 2", "base"}, "short array": {l, "0 1 2", "base"}, "empty array": {nil, "", "base"}, "described array": {[]api.Value{num(7), text("x"), undefined()}, "0 1", "base"},
		"mapped": {l, "0 1 2", "base"}, "loosened": {l, "0 1 2", "base"}, "bare mapped": {nil, "", "base"}, "unmapped": {l, "0 1 2", "base"},
		"string": {[]api.Value{text(high), text(low)}, "0 1", "base"}, "empty string": {nil, "", "base"}, "described string": {[]api.Value{text("a"), text("b")}, "0 1 5 a", "base"},
		"buffer": {nil, "a", "base"}, "elements": {zeros, "0 1 2 a", "base"}, "no elements": {nil, "a", "base"}, "no exports": {nil, "", ""}, "bound exports": {nil, "a b", ""},
	}
}

func names() []string { return slices.Sorted(maps.Keys(sorts())) }

// runner is a world with a maker of a kind, and what asks its iterators.
func (w world) runner(kind int) {
	n, err := iterate.Next(w.h, null())
	w.add("next", n, err)
	n, err = iterate.Maker(w.h, null(), kind, null())
	w.add("maker", n, err)
}

// iterator is a new array iterator of an object.
func (w world) iterator(o int) api.Value {
	w.t.Helper()
	ask("Call", ref(w.n["maker"]), ref(o)).adds(w.t, w.h, 1, ref(w.h.Len()+1), nil, of(api.CIterator, null()))
	return ref(w.h.Len())
}

// cost is what something costs now; what is spent is spent.
func (w world) cost(do func() error) int {
	w.t.Helper()
	fuel := w.h.Fuel()
	if err := do(); err != nil {
		w.t.Fatal(err)
	}
	return fuel - w.h.Fuel()
}

// costOf is what Get of a key of an object costs.
func (w world) costOf(o int, k string) int {
	w.t.Helper()
	return w.cost(func() error { _, err := w.h.Get(o, str(k), ref(o)); return err })
}

// lengthCost is what an object's length costs: a typed array's costs nothing.
func (w world) lengthCost(o int) int {
	if class, _ := w.h.Class(o); class == api.CTyped {
		return 0
	}
	return w.costOf(o, "length")
}

// member holds a step of an array iterator against what it must tell.
func (w world) member(it api.Value, kind, o, i int, v api.Value) {
	w.t.Helper()
	n, cost, asks := w.h.Len(), 1+w.lengthCost(o), ask("Call", ref(w.n["next"]), it)
	if kind != api.IKeys {
		cost += w.costOf(o, strconv.Itoa(i))
	}
	at := num(float64(i))
	switch kind {
	case api.IKeys:
		asks.adds(w.t, w.h, cost, ref(n+1), nil, result(at, no()))
	case api.IValues:
		asks.adds(w.t, w.h, cost, ref(n+1), nil, result(v, no()))
	case api.IEntries:
		asks.adds(w.t, w.h, cost, ref(n+2), nil, listed(at, v), result(ref(n+1), no()))
	}
}

// ends holds a step of an array iterator that is at its end, at some cost beside the call.
func (w world) ends(it api.Value, cost int) {
	w.t.Helper()
	ask("Call", ref(w.n["next"]), it).adds(w.t, w.h, 1+cost, ref(w.h.Len()+1), nil, over())
}

// Objects of every class, and proxies without traps in front of them. (A proxy of a typed array is none: it has no length of its own.)
func TestEveryClass(t *testing.T) {
	t.Parallel()
	for _, kind := range kinds() {
		for _, name := range names() {
			s := sorts()[name]
			w := newWorld(t, 1<<20, 20)
			w.runner(kind)
			p := w.n[name]
			for n := range 4 {
				it, members := w.iterator(p), s.members
				if n > 0 && name == "elements" {
					members = nil
				}
				for i, v := range members {
					w.member(it, kind, p, i, v)
				}
				w.ends(it, w.lengthCost(p))
				w.ends(it, 0)
				p = w.proxy(p)
			}
		}
	}
}

// splits is words with blanks between; a dot is the empty one.
func splits(s string) []api.Key {
	var l []api.Key
	for _, w := range strings.Fields(s) {
		l = append(l, str(strings.TrimPrefix(w, ".")))
	}
	return l
}

// inCost is what a for-in loop costs over an object: of it and each of its prototypes, the keys, each one that is a string, and the prototype.
func (w world) inCost(v api.Value) int {
	w.t.Helper()
	met := map[api.Key]bool{}
	return w.cost(func() error {
		for v.Kind == api.KRef {
			keys, err := w.h.OwnPropertyKeys(v.Id)
			if err != nil {
				return err
			}
			for _, k := range keys {
				if k.Sym != 0 || met[k] {
					continue
				}
				met[k] = true
				if _, _, err := w.h.GetOwnProperty(v.Id, k); err != nil {
					return err
				}
			}
			if v, err = w.h.GetPrototypeOf(v.Id); err != nil {
				return err
			}
		}
		return nil
	})
}

func TestForInOfEveryClass(t *testing.T) {
	t.Parallel()
	for _, name := range names() {
		s := sorts()[name]
		w := newWorld(t, 1<<20, 20)
		p := w.n[name]
		for range 4 {
			ask("ForIn", ref(p)).stays(t, w.h, w.inCost(ref(p)), splits(s.keys+" "+s.above), nil)
			p = w.proxy(p)
		}
		// the same behind another object, as its prototype; names of its own come first, and hide others
		for _, proto := range []int{w.n[name], p} {
			o := object(t, w.h, ref(proto), has("own", num(1)), is("a", data(num(1), "")), is("0", data(num(1), "")), has("base", num(1)))
			want := slices.DeleteFunc(splits(s.keys+" "+s.above), func(k api.Key) bool { return k.Str == "a" || k.Str == "0" || k.Str == "base" })
			ask("ForIn", ref(o)).stays(t, w.h, w.inCost(ref(o)), append([]api.Key{str("own"), str("base")}, want...), nil)
		}
	}
}

// An array with more members than there can be steps: it is gone through from its beginning, with members that are there and such that are not.
func TestLongArray(t *testing.T) {
	for _, kind := range kinds() {
		w := newWorld(t, 1000, 20)
		w.runner(kind)
		o := w.n["long array"]
		it := w.iterator(o)
		for i := range 8 {
			w.member(it, kind, o, i, map[bool]api.Value{true: num(2), false: undefined()}[i == 3])
		}
		ask("ForIn", ref(o)).stays(t, w.h, w.inCost(ref(o)), splits("3 4294967294 base"), nil)
	}
}

// The exports of a namespace that are bound to nothing yet: they cannot be told, by name or as members.
func TestUnbound(t *testing.T) {
	w := newWorld(t, 1000, 20)
	o := ref(w.n["exports"])
	// The keys; of each a GetOwnProperty, which enters Get.
	ask("ForIn", o).stays(t, w.h, 1+2+2, nil, &api.Thrown{Kind: api.XReference})
	namespace.Bind(w.h, o.Id, "b", num(1))
	ask("ForIn", o).stays(t, w.h, 1+2+2+1, splits("a b"), nil)
	for i, kind := range kinds() {
		w := newWorld(t, 1000, 20)
		w.runner(kind)
		n, err := namespace.New(w.h, []string{"length", "0", "1"})
		m := made(t, n, err)
		it := w.iterator(m)
		ask("Call", ref(w.n["next"]), it).stays(t, w.h, 1+1, nil, &api.Thrown{Kind: api.XReference})
		namespace.Bind(w.h, m, "length", num(2))
		w.ends(it, 0)
		it = w.iterator(m)
		asks := ask("Call", ref(w.n["next"]), it)
		if kind == api.IKeys {
			w.member(it, kind, m, 0, num(0))
		} else {
			asks.stays(t, w.h, 1+1+1, nil, &api.Thrown{Kind: api.XReference})
			w.ends(it, 0)
			it = w.iterator(m)
			namespace.Bind(w.h, m, "0", text("bound"))
			w.member(it, kind, m, 0, text("bound"))
		}
		namespace.Bind(w.h, m, "length", text("1"))
		w.ends(it, 1)
		if i > 2 {
			t.Errorf("there are %d kinds", i)
		}
	}
}

// A typed array knows its length, whatever it has under that name, or its prototype; once its buffer is detached it is none, ahead of its number being looked at; what is at its end does not ask.
func TestTypedArrays(t *testing.T) {
	t.Parallel()
	for _, kind := range kinds() {
		for _, length := range []int{0, 1, 3} {
			for steps := range length + 3 {
				w := newWorld(t, 1000, 20)
				w.runner(kind)
				getter := addNative(t, w.h, func(api.Value, []api.Value) (api.Value, error) {
					t.Error("23.2: the length is asked")
					return num(9), nil
				})
				lay(t, w.h, w.n["base"], got("length", getter))
				n, err := typed.New(w.h, ref(w.n["base"]), w.n["buffer"], api.TUint8, 1, length)
				o := made(t, n, err)
				if steps%2 == 0 {
					lay(t, w.h, o, is("length", accessor(ref(getter), undefined(), "")))
				}
				it := w.iterator(o)
				for i := range min(steps, length) {
					w.h.Set(o, key.FromIndex(uint32(i)), num(float64(i+5)), ref(o))
					w.member(it, kind, o, i, num(float64(i+5)))
				}
				for range steps - length {
					w.ends(it, 0)
				}
				if e := typed.Detach(w.h, w.n["buffer"]); e != api.OK {
					t.Fatal(e)
				}
				if steps <= length {
					ask("Call", ref(w.n["next"]), it).stays(t, w.h, 1, nil, typeError())
				}
				w.ends(it, 0)
			}
		}
	}
}

// A typed array without its buffer has no elements, and no length that can be asked; a proxy of it has none, either, as any object.
func TestDetached(t *testing.T) {
	for _, kind := range kinds() {
		w := newWorld(t, 1000, 20)
		w.runner(kind)
		o := w.n["detached"]
		p := w.proxy(o)
		it := w.iterator(o)
		ask("Call", ref(w.n["next"]), it).stays(t, w.h, 1, nil, typeError())
		w.ends(it, 0)
		w.ends(w.iterator(p), w.lengthCost(p))
		for _, v := range []api.Value{ref(o), ref(p)} {
			ask("ForIn", v).stays(t, w.h, w.inCost(v), splits("a base"), nil)
		}
		lay(t, w.h, w.n["base"], has("length", num(1)))
		w.member(w.iterator(p), kind, p, 0, undefined())
		ask("Call", ref(w.n["next"]), w.iterator(o)).stays(t, w.h, 1, nil, typeError())
	}
}

// Buffers of no bytes, and typed arrays at the end of one: they are not detached, till they are.
func TestEmptyBuffers(t *testing.T) {
	for _, kind := range kinds() {
		for size := range 3 {
			for element := api.TInt8; element <= api.TFloat64; element++ {
				w := newWorld(t, 1000, 20)
				w.runner(kind)
				n, err := typed.Buffer(w.h, null(), size*8)
				b := made(t, n, err)
				n, err = typed.New(w.h, null(), b, element, size*8, 0)
				o := made(t, n, err)
				w.ends(w.iterator(o), 0)
				it := w.iterator(o)
				if e := typed.Detach(w.h, b); e != api.OK {
					t.Fatal(e)
				}
				ask("Call", ref(w.n["next"]), it).stays(t, w.h, 1, nil, typeError())
				w.ends(it, 0)
			}
		}
	}
}

// Elements of every kind, which take several bytes each: it is their number that counts, not that of the bytes.
func TestElementsOfEveryKind(t *testing.T) {
	for element := api.TInt8; element <= api.TFloat64; element++ {
		w := newWorld(t, 1000, 20)
		w.runner(api.IValues)
		n, err := typed.Buffer(w.h, null(), 40)
		b := made(t, n, err)
		n, err = typed.New(w.h, null(), b, element, 8, 4)
		o := made(t, n, err)
		it := w.iterator(o)
		for i := range 4 {
			w.h.Set(o, key.FromIndex(uint32(i)), num(float64(i+1)), ref(o))
			w.member(it, api.IValues, o, i, num(float64(i+1)))
		}
		w.ends(it, 0)
	}
}

// An arguments object is gone through as its parameters are now; a String object, and an array, whatever is laid beside.
func TestArgumentsAsTheyAre(t *testing.T) {
	w := newWorld(t, 1000, 20)
	w.runner(api.IValues)
	o := w.n["mapped"]
	it := w.iterator(o)
	w.member(it, api.IValues, o, 0, num(7))
	if e := args.SetSlot(w.h, o, "b", text("changed")); e != api.OK {
		t.Fatal(e)
	}
	w.member(it, api.IValues, o, 1, text("changed"))
	if ok, err := w.h.Set(o, str("length"), num(5), ref(o)); !ok || err != nil {
		t.Fatal(ok, err)
	}
	for i := 2; i < 5; i++ {
		w.member(it, api.IValues, o, i, map[bool]api.Value{true: ref(1), false: undefined()}[i == 2])
	}
	w.h.Delete(o, str("length"))
	w.ends(it, 2) // its prototype has none, either
}

// A revoked proxy throws where it is asked first; an iterator that has met one is at its end, whatever may come.
func TestRevoked(t *testing.T) {
	for _, kind := range kinds() {
		for _, name := range []string{"array", "elements", "string", "one"} {
			w := newWorld(t, 1000, 20)
			w.runner(kind)
			p := w.revoked(w.n[name])
			for n := range 3 {
				ask("ForIn", ref(p)).stays(t, w.h, 1+2*n, nil, typeError())
				for _, call := range []string{"Get", "List"} {
					ask(call, ref(p)).stays(t, w.h, 1+2*n, nil, typeError())
				}
				ask("ForOf", ref(p), ref(w.n["native"])).stays(t, w.h, 1+2*n, nil, typeError())
				steps(p, ref(w.n["native"])).stays(t, w.h, 1, nil, typeError()) // it answers no object
				closes(p, null(), nil).stays(t, w.h, 1+2*n, nil, typeError())
				closes(p, null(), thrown(num(1))).stays(t, w.h, 1+2*n, nil, thrown(num(1)))
				it := w.iterator(p)
				ask("Call", ref(w.n["next"]), it).stays(t, w.h, 1+1+2*n, nil, typeError())
				w.ends(it, 0)
				o := object(t, w.h, ref(p), has("own", num(1)))
				ask("ForIn", ref(o)).stays(t, w.h, 1+1+1+1+2*n, nil, typeError())
				p = w.proxy(p)
			}
		}
	}
}

// What makes iterators, and what asks them, may be gone through themselves; so may an array iterator.
func TestOfThemselves(t *testing.T) {
	for _, kind := range kinds() {
		w := newWorld(t, 1000, 20)
		w.runner(kind)
		for _, o := range []int{w.n["maker"], w.n["next"], w.iterator(w.n["array"]).Id} {
			lay(t, w.h, o, has("length", num(1)), has("0", ref(o)))
			it := w.iterator(o)
			w.member(it, kind, o, 0, ref(o))
			w.ends(it, 1)
			ask("ForIn", ref(o)).stays(t, w.h, 4, splits("0 length"), nil)
		}
	}
}

// Lists of objects of every class, whose prototype's prototype has a maker.
func TestListsOfEveryClass(t *testing.T) {
	for _, name := range names() {
		s := sorts()[name]
		if s.above != "base" {
			continue
		}
		for _, kind := range kinds() {
			w := newWorld(t, 1000, 20)
			lay(t, w.h, w.n["base"], marked(api.SymIterator, data(ref(makerOf(t, w.h, kind)), "")))
			l, err := iterate.List(w.h, ref(w.n[name]))
			if err != nil || len(l) != len(s.members) {
				t.Fatalf("23.7: %s: %v, %v; want %v", name, l, err, s.members)
			}
			for i, v := range l {
				want := []api.Value{num(float64(i)), s.members[i]}
				if kind == api.IEntries {
					l, e := array.Values(w.h, v.Id, 9)
					if e != api.OK || !sameValues(l, want) {
						t.Errorf("23.7: %s: %v, %v; want %v", name, l, e, want)
					}
				} else if !sameValue(v, want[kind-1]) {
					t.Errorf("23.7: %s: %v; want %v", name, v, want[kind-1])
				}
			}
		}
	}
}
