package bound_test

// The chapter's examples.

import (
	"testing"

	"cameo/api"
	"cameo/bound"
)

// secondArg is the body of a function that answers its second argument.
func secondArg() []api.Op { return []api.Op{{Code: api.OArg, A: 1}, {Code: api.OReturn}} }

func TestExample1(t *testing.T) {
	h := newHeap(t, 9, 1000, 9)
	f := fn(t, h, secondArg()...)
	plain := bind(t, h, f, null(), num(1), num(2))
	calls(plain, undefined(), num(3)).is(t, h, 2+2, num(2), nil)
	looks(t, h, plain, boundShape(null(), told("length", num(0)), told("name", text("bound "))))
	lay(t, h, f, has("length", num(3)), has("name", text("g")))
	binds(f, null(), num(1), num(2)).is(t, h, 4, 3, nil)
	looks(t, h, 3, boundShape(null(), told("length", num(1)), told("name", text("bound g"))))
	calls(3, undefined(), num(3)).is(t, h, 2+2, num(2), nil)
}

func TestExample2(t *testing.T) {
	h := newHeap(t, 9, 1000, 9)
	var this api.Value
	var with []api.Value
	f := addNative(t, h, func(x api.Value, l []api.Value) (api.Value, error) {
		this, with = x, l
		return null(), nil
	})
	again := bind(t, h, bind(t, h, f, null(), num(1), num(2)), num(5), num(9))
	calls(again, text("nobody")).is(t, h, 3, null(), nil)
	if this != null() || len(with) != 3 || with[0] != num(1) || with[1] != num(2) || with[2] != num(9) {
		t.Errorf("%v, %v", this, with)
	}
}

func TestExample3(t *testing.T) {
	h := newHeap(t, 9, 1000, 9)
	f, base := class(t, h), made(t, h, null())
	o := made(t, h, ref(base))
	if ok, err := bound.InstanceOf(h, ref(o), ref(f)); ok || !sameError(err, typeError()) {
		t.Errorf("without a prototype: %v, %v", ok, err)
	}
	lay(t, h, f, has("prototype", ref(base)))
	if ok, err := bound.InstanceOf(h, ref(o), ref(f)); !ok || err != nil {
		t.Errorf("%v, %v", ok, err)
	}
	b := bind(t, h, f, null())
	if ok, err := bound.InstanceOf(h, ref(o), ref(b)); !ok || err != nil {
		t.Errorf("bound: %v, %v", ok, err)
	}
	if ok, err := bound.InstanceOf(h, ref(o), ref(base)); ok || !sameError(err, typeError()) {
		t.Errorf("not callable: %v, %v", ok, err)
	}
	lay(t, h, base, hasInstance(ref(giving(t, h, text("a")))))
	if ok, err := bound.InstanceOf(h, num(1), ref(base)); !ok || err != nil {
		t.Errorf("by a method: %v, %v", ok, err)
	}
}
