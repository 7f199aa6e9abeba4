package namespace_test

// Namespaces as prototypes and as receivers: what is entered on the way, and what comes of it.

import (
	"slices"
	"testing"

	"cameo/api"
	"cameo/array"
	"cameo/heap"
	"cameo/ordinary"
	"cameo/strobj"
	"cameo/typed"
)

// family is a heap with the objects 1 (a namespace: 0 and b are bound to nothing, 1 to one, a to two), 2 (ordinary, of 1, with c and SymIterator), 3 (ordinary, of 2), 4 (an array of 1, empty), 5 (a String object of 1, of xy), 6 (a buffer of two bytes), 7 (a typed array of 1 over it), 8 (a function of 1, which must not be called).
func family(t *testing.T, depth int) *heap.Heap {
	t.Helper()
	h := newHeap(t, 8, 0, depth)
	of(t, h, "a", "b", "0", "1")
	bind(t, h, 1, "1", num(1))
	bind(t, h, 1, "a", num(2))
	object(t, h, ref(1), has(str("c"), num(30)), has(sym(api.SymIterator), num(40)))
	object(t, h, ref(2))
	n, err := array.New(h, ref(1), 0)
	made(t, n, err)
	n, err = strobj.New(h, ref(1), "xy")
	made(t, n, err)
	buffer, err := typed.Buffer(h, null(), 2)
	made(t, buffer, err)
	n, err = typed.New(h, ref(1), buffer, api.TInt8, 0, 2)
	made(t, n, err)
	n, err = h.Add(api.CNative, ref(1), native{}, does(func(api.Value, []api.Value) (api.Value, error) {
		t.Error("a function is called")
		return null(), nil
	}))
	made(t, n, err)
	return h
}

// What is asked of an object that has nothing such is asked of the namespace, which is entered.
func TestAsPrototype(t *testing.T) {
	for o, way := range map[int]string{2: "1", 3: "12", 4: "1", 5: "1", 8: "1"} {
		at := way + string(way[len(way)-1]+1)
		for _, receiver := range []api.Value{ref(o), ref(1), null(), text("x")} {
			gets(o, str("a"), receiver).comes(t, family, at, num(2), nil)
			gets(o, str("b"), receiver).comes(t, family, at, nil, referenceError())
			gets(o, str("d"), receiver).comes(t, family, at, undefined(), nil)
			gets(o, str("7"), receiver).comes(t, family, at, undefined(), nil)
			gets(o, tag(), receiver).comes(t, family, at, text("Module"), nil)
			gets(o, sym(1), receiver).comes(t, family, at, undefined(), nil)
			for _, k := range []api.Key{str("a"), str("b"), str("d"), str("7"), tag(), sym(1)} {
				sets(o, k, num(2), receiver).comes(t, family, at, false, nil)
			}
		}
		for _, k := range []api.Key{str("a"), str("b"), tag()} {
			hasProp(o, k).comes(t, family, at, true, nil)
		}
		for _, k := range []api.Key{str("d"), str("7"), sym(1)} {
			hasProp(o, k).comes(t, family, at, false, nil)
		}
		for _, k := range []api.Key{str("a"), str("b"), str("d"), str("7"), tag(), sym(1)} {
			getOwn(o, k).comes(t, family, "1", own{}, nil)
			deletes(o, k).comes(t, family, "1", true, nil)
		}
	}
}

// Array indices are exports as any other names: what has an element of its own asks nobody.
func TestIndicesAsPrototype(t *testing.T) {
	gets(4, str("0"), ref(4)).comes(t, family, "12", nil, referenceError())
	gets(4, str("1"), ref(4)).comes(t, family, "12", num(1), nil)
	sets(4, str("0"), num(1), ref(4)).comes(t, family, "12", false, nil)
	sets(4, str("5"), num(1), ref(4)).comes(t, family, "12", false, nil)
	hasProp(4, str("0")).comes(t, family, "12", true, nil)
	gets(5, str("0"), ref(5)).comes(t, family, "1", text("x"), nil)
	gets(5, str("1"), ref(5)).comes(t, family, "1", text("y"), nil)
	sets(5, str("2"), text("z"), ref(5)).comes(t, family, "12", false, nil)
	gets(7, str("0"), ref(7)).comes(t, family, "1", num(0), nil)
	gets(7, str("1"), ref(7)).comes(t, family, "1", num(0), nil)
	gets(7, str("2"), ref(7)).comes(t, family, "1", undefined(), nil) // a numeric key is nobody else's
	gets(7, str("a"), ref(7)).comes(t, family, "12", num(2), nil)
	gets(7, str("b"), ref(7)).comes(t, family, "12", nil, referenceError())
	gets(2, str("0"), ref(2)).comes(t, family, "12", nil, referenceError())
	gets(3, str("1"), ref(3)).comes(t, family, "123", num(1), nil)
}

// What a child has of its own hides what the namespace has, and is the child's alone; it comes by being defined, since nothing can be set.
func TestChildren(t *testing.T) {
	h := family(t, 9)
	h.Refuel(100)
	gets(3, str("c"), ref(3)).is(t, h, 2, num(30), nil)
	sets(3, str("c"), num(31), ref(3)).is(t, h, 4, true, nil)
	sets(2, sym(api.SymIterator), num(41), ref(2)).is(t, h, 3, true, nil)
	gets(3, str("c"), ref(3)).is(t, h, 1, num(31), nil)
	gets(2, str("c"), ref(2)).is(t, h, 1, num(30), nil)
	for _, k := range []api.Key{str("a"), str("b"), str("d"), tag()} {
		sets(2, k, num(5), ref(2)).is(t, h, 2, false, nil)
		defines(2, k, data(num(5), "wec")).is(t, h, 1, true, nil)
		gets(3, k, ref(3)).is(t, h, 2, num(5), nil)
		sets(2, k, num(6), ref(2)).is(t, h, 3, true, nil)
		gets(2, k, ref(2)).is(t, h, 1, num(6), nil)
	}
	deletes(2, str("a")).is(t, h, 1, true, nil)
	deletes(2, str("b")).is(t, h, 1, true, nil)
	gets(2, str("a"), ref(2)).is(t, h, 2, num(2), nil)
	gets(2, str("b"), ref(2)).is(t, h, 2, nil, referenceError())
	bind(t, h, 1, "b", text("now"))
	gets(3, str("b"), ref(3)).is(t, h, 3, text("now"), nil)
	exports(t, h, 1, fact{[]string{"0", "1", "a", "b"}, []api.Value{{}, num(1), num(2), text("now")}})
}

// A namespace ends each chain that it stands in, and comes behind none.
func TestChains(t *testing.T) {
	h := family(t, 9)
	h.Refuel(100)
	for o, want := range map[int][]int{1: nil, 2: {1}, 3: {2, 1}, 4: {1}} {
		if l, e := ordinary.Chain(h, o); !slices.Equal(l, want) || e != api.OK {
			t.Errorf("Chain(%d): %v, %v", o, l, e)
		}
	}
	for _, o := range []int{2, 3, 4} { // it would go round, but is not even looked at
		setProto(1, ref(o)).is(t, h, 1, false, nil)
	}
	setProto(3, ref(1)).is(t, h, 1, true, nil)
	setProto(2, null()).is(t, h, 1, true, nil)
	setProto(2, ref(3)).is(t, h, 1, true, nil)
	if at := ordinary.Sound(h.Shapes()); at != -1 {
		t.Errorf("W2: %d is not sound", at+1)
	}
}

// desk is a heap with the objects 1 (a namespace: a is bound to 1, b to nothing), 2 (ordinary, with w that can be written, r that can not, and some that are exports, too), 3 (an ordinary object of 2).
func desk(t *testing.T, depth int) *heap.Heap {
	t.Helper()
	h := newHeap(t, 3, 0, depth)
	of(t, h, "a", "b")
	bind(t, h, 1, "a", num(1))
	object(t, h, null(), has(str("w"), num(3)), api.Prop{Key: str("r"), Desc: data(num(3), "ec")}, has(str("a"), num(3)))
	object(t, h, ref(2))
	return h
}

// As a receiver a namespace is asked for its own property, and then defines one: that is how one can tell what it has from what it has not, but never change it.
func TestAsReceiver(t *testing.T) {
	set := func(o int, k api.Key, v api.Value, path string, want bool, wrong error) {
		t.Helper()
		sets(o, k, v, ref(1)).comes(t, desk, path, want, wrong)
	}
	for _, way := range []struct {
		o        int
		path     string // up to where it is the receiver's turn
		own, ask string // two methods of the receiver, each with what it enters
	}{{2, "1", "23", "234"}, {3, "12", "34", "345"}} {
		none := way.own[:1]
		set(way.o, str("a"), num(1), way.path+way.own+way.ask, true, nil)
		set(way.o, str("a"), num(2), way.path+way.own+way.ask, false, nil)
		set(way.o, str("a"), num(below0), way.path+way.own+way.ask, false, nil)
		set(way.o, str("b"), num(1), way.path+way.own, false, referenceError())
		set(way.o, str("c"), num(1), way.path+none+way.ask[:2], false, nil)
		set(way.o, str("w"), num(1), way.path+none+way.ask[:2], false, nil)
		set(way.o, str("r"), num(1), way.path, false, nil)
		set(way.o, tag(), text("Module"), way.path+none, false, nil)
		set(way.o, sym(1), num(1), way.path+none+none, false, nil)
		gets(way.o, str("a"), ref(1)).comes(t, desk, way.path, num(3), nil)
		gets(way.o, str("b"), ref(1)).comes(t, desk, way.path, undefined(), nil)
	}
}

// Getters and setters are called with a namespace as the receiver, and may bind its exports.
func TestAccessorsOfReceivers(t *testing.T) {
	h := newHeap(t, 9, 100, 9)
	of(t, h, "a", "b")
	var seen []api.Value
	f := addNative(t, h, func(this api.Value, given []api.Value) (api.Value, error) {
		seen = append([]api.Value{this}, given...)
		for i, v := range given {
			bind(t, h, this.Id, []string{"a", "b"}[i], v)
		}
		return num(9), nil
	})
	o := object(t, h, null(), api.Prop{Key: str("a"), Desc: accessor(ref(f), ref(f), "")})
	gets(o, str("a"), ref(1)).is(t, h, 2, num(9), nil)
	if !slices.Equal(seen, []api.Value{ref(1)}) {
		t.Errorf("called with %v", seen)
	}
	sets(o, str("a"), text("v"), ref(1)).is(t, h, 2, true, nil)
	if !slices.Equal(seen, []api.Value{ref(1), text("v")}) {
		t.Errorf("called with %v", seen)
	}
	exports(t, h, 1, fact{[]string{"a", "b"}, []api.Value{text("v"), {}}})
}
