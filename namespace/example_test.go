package namespace_test

// The chapter's examples.

import (
	"testing"

	"cameo/api"
	"cameo/namespace"
)

func TestExample1(t *testing.T) {
	h := newHeap(t, 1, 100, 9)
	o := of(t, h, "b", "a", "10", "2")
	keysOf(o).is(t, h, 1, []api.Key{str("10"), str("2"), str("a"), str("b"), sym(api.SymToStringTag)}, nil)
	gets(o, str("a"), ref(o)).is(t, h, 1, nil, referenceError())
	if e := namespace.Bind(h, o, "a", num(1)); e != api.OK {
		t.Error(e)
	}
	gets(o, str("a"), ref(o)).is(t, h, 1, num(1), nil)
	getOwn(o, str("a")).is(t, h, 2, told(api.Desc{Value: num(1), Writable: api.Yes, Enumerable: api.Yes, Configurable: api.No}), nil)
	getOwn(o, str("b")).is(t, h, 2, nil, referenceError())
	hasProp(o, str("b")).is(t, h, 1, true, nil)
}

func TestExample2(t *testing.T) {
	h := newHeap(t, 1, 100, 9)
	o := of(t, h, "b", "a", "10", "2")
	bind(t, h, o, "a", num(1))
	defines(o, str("a"), api.Desc{Value: num(1)}).is(t, h, 3, true, nil)
	defines(o, str("a"), api.Desc{Value: num(2)}).is(t, h, 3, false, nil)
	defines(o, str("a"), api.Desc{Writable: api.No}).is(t, h, 3, false, nil)
	defines(o, str("a"), api.Desc{Enumerable: api.Yes}).is(t, h, 3, true, nil)
	defines(o, str("z"), api.Desc{Value: num(1)}).is(t, h, 2, false, nil)
	defines(o, str("b"), api.Desc{Value: num(1)}).is(t, h, 3, nil, referenceError())
}

func TestExample3(t *testing.T) {
	h := newHeap(t, 1, 100, 9)
	o := of(t, h, "b", "a", "10", "2")
	bind(t, h, o, "a", num(1))
	sets(o, str("a"), num(2), ref(o)).is(t, h, 1, false, nil)
	deletes(o, str("a")).is(t, h, 1, false, nil)
	deletes(o, str("z")).is(t, h, 1, true, nil)
	setProto(o, null()).is(t, h, 1, true, nil)
	gets(o, str("a"), ref(o)).is(t, h, 1, num(1), nil)
}
