package namespace_test

// 20.1 to 20.7: each of the thirteen methods, with each fuel and depth.

import (
	"strings"
	"testing"

	"cameo/api"
	"cameo/heap"
)

// binding is a name and what it is bound to: no value, where it is nothing yet.
type binding struct {
	name string
	v    api.Value
}

// bindings is the exports of a world's namespace, in their order.
func bindings() []binding {
	return []binding{
		{"", ref(1)}, {"-0", num(below0)}, {"0", api.Value{}}, {"10", text("x")}, {"2", api.Value{}}, {"4294967294", num(0)}, {"__proto__", ref(2)}, {"a", num(1)}, {"b", api.Value{}}, {"default", undefined()},
		{"length", null()}, {"toString", ref(4)}, {"\u00e9", yes()}, {high, symbol(3)}, {"\U0001f600", num(nan)}, {low, api.Value{}}, {"\uffff", text("\U0001f600")},
	}
}

// world is a heap with the objects 1 (a namespace with bindings), 2 (ordinary, empty), 3 (a namespace without exports), 4 (a native function, which must not be called), 5 (ordinary, of 1).
func world(t *testing.T, depth int) *heap.Heap {
	t.Helper()
	h := newHeap(t, 20, 0, depth)
	var names []string
	for _, b := range bindings() {
		names = append(names, b.name)
	}
	of(t, h, names...)
	object(t, h, null())
	of(t, h)
	addNative(t, h, func(api.Value, []api.Value) (api.Value, error) {
		t.Error("a function is called")
		return null(), nil
	})
	object(t, h, ref(1))
	for _, b := range bindings() {
		if b.v != (api.Value{}) {
			bind(t, h, 1, b.name, b.v)
		}
	}
	return h
}

// strangeKeys is strings that are no exports of the world, strangeSymbols such as lie nowhere.
func strangeKeys() []api.Key {
	return []api.Key{
		str("c"), str("A"), str("a "), str("aa"), str("1"), str("3"), str("00"), str("02"), str("1.5"), str("4294967295"), str("Module"), str("name"), str("valueOf"), str("Symbol.toStringTag"), str("12"), str("e\u0301"), str(high + "a"), str(low + high), str("\U0001f601"), str("\ufffd"), str("\x00"),
	}
}

func strangeSymbols() []api.Key {
	var l []api.Key
	for n := 1; n <= api.WellKnown; n++ {
		if n != api.SymToStringTag {
			l = append(l, sym(n))
		}
	}
	return append(l, sym(14), sym(65536))
}

// receivers is values of every sort, as they are handed to Get and Set.
func receivers() []api.Value {
	return append(plain(), ref(1), ref(2), ref(3), ref(4), ref(5))
}

// 20.1
func TestPrototype(t *testing.T) {
	for _, o := range []int{1, 3} {
		getProto(o).comes(t, world, "1", null(), nil)
		setProto(o, null()).comes(t, world, "1", true, nil)
		for n := 1; n <= 5; n++ {
			setProto(o, ref(n)).comes(t, world, "1", false, nil)
		}
	}
}

// 20.1
func TestExtensible(t *testing.T) {
	for _, o := range []int{1, 3} {
		isExt(o).comes(t, world, "1", false, nil)
		prevent(o).comes(t, world, "1", true, nil)
	}
}

// 20.2: what an export is bound to is asked by Get, which is entered; what is no export is not asked for.
func TestGetOwnProperty(t *testing.T) {
	for _, b := range bindings() {
		if b.v == (api.Value{}) {
			getOwn(1, str(b.name)).comes(t, world, "12", nil, referenceError())
		} else {
			getOwn(1, str(b.name)).comes(t, world, "12", told(data(b.v, "we")), nil)
		}
		getOwn(3, str(b.name)).comes(t, world, "1", own{}, nil)
	}
	for _, k := range append(strangeKeys(), strangeSymbols()...) {
		getOwn(1, k).comes(t, world, "1", own{}, nil)
		getOwn(3, k).comes(t, world, "1", own{}, nil)
	}
	for _, o := range []int{1, 3} {
		getOwn(o, tag()).comes(t, world, "1", told(data(text("Module"), "")), nil)
	}
}

// 20.3: the steps; define_test.go has the descriptors.
func TestDefineOwnProperty(t *testing.T) {
	for _, b := range bindings() {
		k := str(b.name)
		for _, d := range []api.Desc{{}, {Value: b.v}, {Value: text("other")}, {Writable: api.No}, {Get: undefined()}} {
			if b.v == (api.Value{}) {
				defines(1, k, d).comes(t, world, "123", nil, referenceError())
			} else {
				defines(1, k, d).comes(t, world, "123", d == api.Desc{} || sameDesc(d, api.Desc{Value: b.v}), nil)
			}
			defines(3, k, d).comes(t, world, "12", false, nil)
		}
	}
	for _, d := range []api.Desc{{}, data(text("Module"), ""), {Value: num(1)}, {Set: ref(4)}} {
		for _, o := range []int{1, 3} {
			for _, k := range strangeKeys() {
				defines(o, k, d).comes(t, world, "12", false, nil)
			}
			for _, k := range strangeSymbols() {
				defines(o, k, d).comes(t, world, "1", false, nil)
			}
			defines(o, tag(), d).comes(t, world, "1", d.Value.Kind != api.KNum && d.Set == api.Value{}, nil)
		}
	}
}

// 20.4: an export is there, whether it is bound or not, and nothing is asked.
func TestHasProperty(t *testing.T) {
	for _, b := range bindings() {
		hasProp(1, str(b.name)).comes(t, world, "1", true, nil)
		hasProp(3, str(b.name)).comes(t, world, "1", false, nil)
	}
	for _, k := range append(strangeKeys(), strangeSymbols()...) {
		hasProp(1, k).comes(t, world, "1", false, nil)
		hasProp(3, k).comes(t, world, "1", false, nil)
	}
	hasProp(1, tag()).comes(t, world, "1", true, nil)
	hasProp(3, tag()).comes(t, world, "1", true, nil)
}

// 20.5, 20.11: whatever the receiver is.
func TestGet(t *testing.T) {
	for _, receiver := range receivers() {
		for _, b := range bindings() {
			if b.v == (api.Value{}) {
				gets(1, str(b.name), receiver).comes(t, world, "1", nil, referenceError())
			} else {
				gets(1, str(b.name), receiver).comes(t, world, "1", b.v, nil)
			}
			gets(3, str(b.name), receiver).comes(t, world, "1", undefined(), nil)
		}
		for _, k := range append(strangeKeys(), strangeSymbols()...) {
			gets(1, k, receiver).comes(t, world, "1", undefined(), nil)
		}
		gets(1, tag(), receiver).comes(t, world, "1", text("Module"), nil)
		gets(3, tag(), receiver).comes(t, world, "1", text("Module"), nil)
	}
}

// 20.5: nothing is ever set, whatever the key, the value and the receiver are.
func TestSet(t *testing.T) {
	keys := append(append(strangeKeys(), strangeSymbols()...), tag())
	for _, b := range bindings() {
		keys = append(keys, str(b.name))
	}
	for i, k := range keys {
		for j, receiver := range receivers() {
			v := receivers()[(i+j)%len(receivers())]
			sets(1, k, v, receiver).comes(t, world, "1", false, nil)
			sets(3, k, v, receiver).comes(t, world, "1", false, nil)
		}
	}
	for _, b := range bindings() { // what it is already, too
		if b.v != (api.Value{}) {
			sets(1, str(b.name), b.v, ref(1)).comes(t, world, "1", false, nil)
		}
	}
	sets(1, tag(), text("Module"), ref(1)).comes(t, world, "1", false, nil)
}

// 20.6
func TestDelete(t *testing.T) {
	for _, b := range bindings() {
		deletes(1, str(b.name)).comes(t, world, "1", false, nil)
		deletes(3, str(b.name)).comes(t, world, "1", true, nil)
	}
	for _, k := range append(strangeKeys(), strangeSymbols()...) {
		deletes(1, k).comes(t, world, "1", true, nil)
		deletes(3, k).comes(t, world, "1", true, nil)
	}
	deletes(1, tag()).comes(t, world, "1", false, nil)
	deletes(3, tag()).comes(t, world, "1", false, nil)
}

// 20.7
func TestOwnPropertyKeys(t *testing.T) {
	var keys []api.Key
	for _, b := range bindings() {
		keys = append(keys, str(b.name))
	}
	keysOf(1).comes(t, world, "1", append(keys, tag()), nil)
	keysOf(3).comes(t, world, "1", []api.Key{tag()}, nil)
}

// A namespace can be neither called nor constructed, nor be what is constructed, nor a getter.
func TestNoFunction(t *testing.T) {
	h := world(t, 9)
	for _, o := range []int{1, 3} {
		if h.Callable(ref(o)) || h.Constructor(ref(o)) {
			t.Errorf("%d is a function", o)
		}
		for range 2 {
			calls(o, undefined()).stays(t, h, 0, nil, api.ErrKind)
			calls(o, ref(1), num(1), ref(o)).stays(t, h, 0, nil, api.ErrKind)
			constructs(o, o).stays(t, h, 0, nil, api.ErrKind)
			constructs(o, 4, num(1)).stays(t, h, 0, nil, api.ErrKind)
			constructs(4, o, num(1)).stays(t, h, 0, nil, api.ErrKind)
			defines(o, str("a"), api.Desc{Get: ref(o)}).stays(t, h, 0, nil, api.ErrKind)
			defines(2, str("a"), api.Desc{Set: ref(o)}).stays(t, h, 0, nil, api.ErrKind)
			h.Refuel(0)
		}
	}
}

// wrongKeys is what is no key.
func wrongKeys() []api.Key {
	l := []api.Key{sym(-1), sym(65537), {Str: "a", Sym: 1}, {Str: "a", Sym: api.SymToStringTag}, str(tooLong), str(strings.Repeat("\u20ac", api.MaxStr/3+1))}
	for _, s := range noStrings() {
		l = append(l, str(s))
	}
	return l
}

// What the heap refuses ahead of a method being entered it refuses of a namespace, too, at no cost.
func TestRefused(t *testing.T) {
	h := world(t, 9)
	for _, k := range wrongKeys() {
		for _, x := range []act{getOwn(1, k), defines(1, k, api.Desc{}), hasProp(1, k), gets(1, k, null()), sets(1, k, null(), null()), deletes(1, k)} {
			x.stays(t, h, 0, nil, api.ErrValue)
		}
	}
	refuse := func(v api.Value, want api.Errno) {
		t.Helper()
		for _, x := range []act{setProto(1, v), gets(1, str("a"), v), gets(1, tag(), v), sets(1, str("a"), v, null()), sets(1, str("c"), null(), v)} {
			x.stays(t, h, 0, nil, want)
		}
		if v.Kind != api.KNone { // no value may stand in a descriptor, unless another field is filled
			defines(1, str("a"), api.Desc{Value: v}).stays(t, h, 0, nil, want)
		}
	}
	for _, v := range broken() {
		refuse(v, api.ErrValue)
	}
	for _, v := range strangers() {
		refuse(v, api.ErrRef)
	}
	for _, v := range plain() {
		if v.Kind != api.KNull {
			setProto(1, v).stays(t, h, 0, nil, api.ErrValue)
		}
	}
	for _, d := range []api.Desc{{Writable: 3}, {Enumerable: -1}, {Value: num(1), Get: undefined()}, {Writable: api.No, Set: undefined()}, {Get: text("a")}} {
		defines(1, str("a"), d).stays(t, h, 0, nil, api.ErrValue)
		defines(1, str("b"), d).stays(t, h, 0, nil, api.ErrValue)
		defines(1, str("c"), d).stays(t, h, 0, nil, api.ErrValue)
	}
	for _, x := range []act{getProto(1), setProto(1, null()), isExt(1), prevent(1), getOwn(1, str("a")), defines(1, str("a"), api.Desc{}), hasProp(1, str("a")), gets(1, str("a"), null()), sets(1, str("a"), null(), null()), deletes(1, str("a")), keysOf(1)} {
		x.stays(t, h, 0, nil, api.ErrFuel)
		x.o = 21
		x.stays(t, h, 0, nil, api.ErrRef)
	}
}
