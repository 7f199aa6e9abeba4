package namespace_test

// Namespaces as a proxy's targets, and as its handlers.

import (
	"testing"

	"cameo/api"
	"cameo/array"
	"cameo/heap"
	"cameo/proxy"
)

// mirror is a heap with the objects 1 (a namespace: 0 and a are bound to 1 and text, b to nothing), 2 (ordinary, empty), 3 (a proxy of 1 with the handler 2).
func mirror(t *testing.T, depth int) *heap.Heap {
	t.Helper()
	h := newHeap(t, 60, 0, depth)
	of(t, h, "a", "b", "0")
	bind(t, h, 1, "0", num(1))
	bind(t, h, 1, "a", text("text"))
	object(t, h, null())
	n, err := proxy.New(h, ref(1), ref(2))
	made(t, n, err)
	return h
}

// A proxy without traps asks its handler for the trap, and then the namespace, as anybody does.
func TestAsTarget(t *testing.T) {
	const way = "12" // the proxy, and its handler's Get
	getProto(3).comes(t, mirror, way+"2", null(), nil)
	setProto(3, null()).comes(t, mirror, way+"2", true, nil)
	setProto(3, ref(1)).comes(t, mirror, way+"2", false, nil)
	setProto(3, ref(3)).comes(t, mirror, way+"2", false, nil)
	isExt(3).comes(t, mirror, way+"2", false, nil)
	prevent(3).comes(t, mirror, way+"2", true, nil)
	getOwn(3, str("a")).comes(t, mirror, way+"23", told(data(text("text"), "we")), nil)
	getOwn(3, str("b")).comes(t, mirror, way+"23", nil, referenceError())
	getOwn(3, str("c")).comes(t, mirror, way+"2", own{}, nil)
	getOwn(3, tag()).comes(t, mirror, way+"2", told(data(text("Module"), "")), nil)
	defines(3, str("a"), api.Desc{Value: text("text")}).comes(t, mirror, way+"234", true, nil)
	defines(3, str("a"), api.Desc{Value: text("t")}).comes(t, mirror, way+"234", false, nil)
	defines(3, str("b"), api.Desc{}).comes(t, mirror, way+"234", nil, referenceError())
	defines(3, str("c"), api.Desc{}).comes(t, mirror, way+"23", false, nil)
	for _, k := range []api.Key{str("a"), str("b"), tag()} {
		hasProp(3, k).comes(t, mirror, way+"2", true, nil)
		deletes(3, k).comes(t, mirror, way+"2", false, nil)
	}
	hasProp(3, str("c")).comes(t, mirror, way+"2", false, nil)
	deletes(3, str("c")).comes(t, mirror, way+"2", true, nil)
	for _, receiver := range []api.Value{ref(3), ref(1), null()} {
		gets(3, str("0"), receiver).comes(t, mirror, way+"2", num(1), nil)
		gets(3, str("b"), receiver).comes(t, mirror, way+"2", nil, referenceError())
		gets(3, str("c"), receiver).comes(t, mirror, way+"2", undefined(), nil)
		gets(3, tag(), receiver).comes(t, mirror, way+"2", text("Module"), nil)
		for _, k := range []api.Key{str("a"), str("b"), str("c"), tag()} {
			sets(3, k, text("text"), receiver).comes(t, mirror, way+"2", false, nil)
		}
	}
	keysOf(3).comes(t, mirror, way+"2", []api.Key{str("0"), str("a"), str("b"), tag()}, nil)
}

// trapped is what a trap answers of a namespace, what that costs, and what comes of it.
type trapped struct {
	trap   string
	act    act
	answer func(t *testing.T, h *heap.Heap) api.Value
	cost   int
	want   any
	wrong  error
}

func always(v api.Value) func(*testing.T, *heap.Heap) api.Value {
	return func(*testing.T, *heap.Heap) api.Value { return v }
}

// listing is an array of these keys.
func listing(l ...api.Value) func(*testing.T, *heap.Heap) api.Value {
	return func(t *testing.T, h *heap.Heap) api.Value {
		n, err := array.Of(h, null(), l)
		return ref(made(t, n, err))
	}
}

// describing is an object that tells a descriptor of data.
func describing(d api.Desc) func(*testing.T, *heap.Heap) api.Value {
	return func(t *testing.T, h *heap.Heap) api.Value {
		field := func(k string, x api.Tri) api.Prop {
			return has(str(k), api.Value{Kind: api.KBool, Bool: x == api.Yes})
		}
		return ref(object(t, h, null(), has(str("value"), d.Value), field("writable", d.Writable), field("enumerable", d.Enumerable), field("configurable", d.Configurable)))
	}
}

// The costs of a trap: the proxy, the handler's Get, the Call; and then what is asked of the target.
func trappedActs() []trapped {
	a, b, c, lie := str("a"), str("b"), str("c"), text("lie")
	const trap = 3
	return []trapped{
		{"getPrototypeOf", getProto(0), always(null()), trap + 2, null(), nil},
		{"getPrototypeOf", getProto(0), always(ref(1)), trap + 2, nil, typeError()},
		{"setPrototypeOf", setProto(0, null()), always(yes()), trap + 2, true, nil},
		{"setPrototypeOf", setProto(0, ref(2)), always(yes()), trap + 2, nil, typeError()},
		{"setPrototypeOf", setProto(0, ref(2)), always(no()), trap, false, nil},
		{"isExtensible", isExt(0), always(no()), trap + 1, false, nil},
		{"isExtensible", isExt(0), always(yes()), trap + 1, nil, typeError()},
		{"preventExtensions", prevent(0), always(yes()), trap + 1, true, nil},
		{"preventExtensions", prevent(0), always(no()), trap, false, nil},
		// An export seems to be writable: a trap may say what it likes of its value, but not that it is none, nor that it is fixed.
		{"get", gets(0, a, null()), always(lie), trap + 2, lie, nil},
		{"get", gets(0, b, null()), always(lie), trap + 2, nil, referenceError()},
		{"get", gets(0, c, null()), always(lie), trap + 1, lie, nil},
		{"get", gets(0, tag(), null()), always(text("Module")), trap + 1, text("Module"), nil},
		{"get", gets(0, tag(), null()), always(lie), trap + 1, nil, typeError()},
		{"set", sets(0, a, lie, null()), always(yes()), trap + 2, true, nil},
		{"set", sets(0, b, lie, null()), always(yes()), trap + 2, nil, referenceError()},
		{"set", sets(0, b, lie, null()), always(no()), trap, false, nil},
		{"set", sets(0, tag(), lie, null()), always(yes()), trap + 1, nil, typeError()},
		{"has", hasProp(0, a), always(no()), trap + 2, nil, typeError()},
		{"has", hasProp(0, b), always(no()), trap + 2, nil, referenceError()},
		{"has", hasProp(0, b), always(yes()), trap, true, nil},
		{"has", hasProp(0, c), always(no()), trap + 1, false, nil},
		{"has", hasProp(0, c), always(yes()), trap, true, nil},
		{"has", hasProp(0, tag()), always(no()), trap + 1, nil, typeError()},
		{"deleteProperty", deletes(0, a), always(yes()), trap + 2, nil, typeError()},
		{"deleteProperty", deletes(0, b), always(yes()), trap + 2, nil, referenceError()},
		{"deleteProperty", deletes(0, b), always(no()), trap, false, nil},
		{"deleteProperty", deletes(0, c), always(yes()), trap + 1, true, nil},
		{"defineProperty", defines(0, a, api.Desc{Value: lie}), always(yes()), trap + 3, true, nil},
		{"defineProperty", defines(0, a, api.Desc{Writable: api.No}), always(yes()), trap + 3, nil, typeError()},
		{"defineProperty", defines(0, a, api.Desc{Configurable: api.Yes}), always(yes()), trap + 3, nil, typeError()},
		{"defineProperty", defines(0, a, api.Desc{Get: undefined()}), always(yes()), trap + 3, nil, typeError()},
		{"defineProperty", defines(0, b, api.Desc{}), always(yes()), trap + 2, nil, referenceError()},
		{"defineProperty", defines(0, c, api.Desc{}), always(yes()), trap + 2, nil, typeError()},
		{"defineProperty", defines(0, sym(1), api.Desc{}), always(yes()), trap + 2, nil, typeError()},
		{"getOwnPropertyDescriptor", getOwn(0, a), always(undefined()), trap + 2, nil, typeError()},
		{"getOwnPropertyDescriptor", getOwn(0, b), always(undefined()), trap + 2, nil, referenceError()},
		{"getOwnPropertyDescriptor", getOwn(0, c), always(undefined()), trap + 1, own{}, nil},
		{"getOwnPropertyDescriptor", getOwn(0, a), describing(data(lie, "we")), trap + 3 + 10, told(data(lie, "we")), nil},
		{"getOwnPropertyDescriptor", getOwn(0, a), describing(data(text("text"), "e")), trap + 3 + 10, nil, typeError()},
		{"getOwnPropertyDescriptor", getOwn(0, a), describing(data(lie, "wec")), trap + 3 + 10, nil, typeError()},
		{"getOwnPropertyDescriptor", getOwn(0, c), describing(data(lie, "wec")), trap + 2 + 10, nil, typeError()},
		// All keys must be told, and it is asked of each whether it is configurable: of b nobody knows.
		{"ownKeys", keysOf(0), listing(text("b"), text("0"), text("a"), symbol(api.SymToStringTag)), trap + 5 + 2 + 2 + 2 + 2, nil, referenceError()},
		{"ownKeys", keysOf(0), listing(), trap + 1 + 2 + 2 + 2 + 2, nil, referenceError()},
	}
}

// behind plays an act of a proxy with one trap in front of a namespace, of which all or some exports are bound.
func (x trapped) behind(t *testing.T, h *heap.Heap) {
	t.Helper()
	answer := x.answer(t, h)
	f := addNative(t, h, func(api.Value, []api.Value) (api.Value, error) { return answer, nil })
	n, err := proxy.New(h, ref(1), ref(object(t, h, null(), has(str(x.trap), ref(f)))))
	x.act.o = made(t, n, err)
	h.Refuel(100)
	before := now(h)
	x.act.is(t, h, x.cost, x.want, x.wrong)
	after := now(h) // a descriptor, or a list of arguments, may have been made an object
	known := len(before.shapes)
	if !sameMoment(before, moment{after.shapes[:known], after.facts[:known], after.errors[:known]}) {
		t.Errorf("%s: %v became %v", x.trap, before, after)
	}
}

// No trap lies about what a namespace shows, also where that throws.
func TestTrapped(t *testing.T) {
	for _, x := range trappedActs() {
		x.behind(t, mirror(t, 9))
	}
}

// Once all exports are bound, all keys can be told, in any order, but no others, and no fewer.
func TestTrappedKeys(t *testing.T) {
	symbols := symbol(api.SymToStringTag)
	for _, x := range []trapped{
		{"ownKeys", keysOf(0), listing(symbols, text("b"), text("0"), text("a")), 3 + 5 + 2 + 2 + 2 + 2 + 1, []api.Key{tag(), str("b"), str("0"), str("a")}, nil},
		{"ownKeys", keysOf(0), listing(text("b"), text("0"), text("a")), 3 + 4 + 2 + 2 + 2 + 2 + 1, nil, typeError()},
		{"ownKeys", keysOf(0), listing(symbols, text("b"), text("a")), 3 + 4 + 2 + 2 + 2 + 2 + 1, nil, typeError()},
		{"ownKeys", keysOf(0), listing(symbols, text("b"), text("0"), text("a"), text("c")), 3 + 6 + 2 + 2 + 2 + 2 + 1, nil, typeError()},
	} {
		h := mirror(t, 9)
		bind(t, h, 1, "b", num(2))
		x.behind(t, h)
	}
}

// A trap may bind what it is asked about: what is told is then held against what is bound now.
func TestBoundByTrap(t *testing.T) {
	h := mirror(t, 9)
	f := addNative(t, h, func(_ api.Value, given []api.Value) (api.Value, error) {
		bind(t, h, given[0].Id, given[1].Str, num(5))
		return no(), nil
	})
	n, err := proxy.New(h, ref(1), ref(object(t, h, null(), has(str("has"), ref(f)))))
	p := made(t, n, err)
	h.Refuel(100)
	getOwn(1, str("b")).is(t, h, 2, nil, referenceError())
	hasProp(p, str("b")).is(t, h, 5, nil, typeError()) // and no ReferenceError any more
	getOwn(1, str("b")).is(t, h, 2, told(data(num(5), "we")), nil)
}

// A handler may be a namespace: its traps are what its exports are bound to, and none is found that is bound to nothing yet.
func TestAsHandler(t *testing.T) {
	h := newHeap(t, 9, 200, 9)
	of(t, h, "get", "has", "set")
	target := object(t, h, null(), has(str("a"), num(1)))
	giving := func(v api.Value) api.Value {
		return ref(addNative(t, h, func(api.Value, []api.Value) (api.Value, error) { return v, nil }))
	}
	n, err := proxy.New(h, ref(target), ref(1))
	p := made(t, n, err)
	gets(p, str("a"), null()).is(t, h, 2, nil, referenceError())
	isExt(p).is(t, h, 3, true, nil) // there is no export of that name
	bind(t, h, 1, "get", giving(num(2)))
	gets(p, str("a"), null()).is(t, h, 4, num(2), nil)
	hasProp(p, str("a")).is(t, h, 2, nil, referenceError())
	bind(t, h, 1, "get", giving(num(3)))
	gets(p, str("a"), null()).is(t, h, 4, num(3), nil)
	bind(t, h, 1, "get", null())
	gets(p, str("a"), null()).is(t, h, 3, num(1), nil)
	bind(t, h, 1, "get", num(5))
	gets(p, str("a"), null()).is(t, h, 2, nil, typeError())
	bind(t, h, 1, "set", ref(1))
	sets(p, str("a"), num(1), null()).is(t, h, 2, nil, typeError())
}
