package records_test

// The chapter's examples.

import (
	"testing"

	"cameo/api"
	"cameo/ordinary"
)

func TestExample1(t *testing.T) {
	h := newHeap(t, 1, 100, 9)
	d := api.Desc{Value: num(1), Enumerable: api.Yes}
	from(d, null()).is(t, h, 0, 1, nil)
	s, _ := h.Shape(1)
	if want := (api.Shape{Class: api.COrdinary, Proto: null(), Extensible: true, Props: []api.Prop{has("value", num(1)), has("enumerable", yes())}}); !sameShape(s, want) {
		t.Errorf("%v; want %v", s, want)
	}
	to(1).is(t, h, 8, d, nil)
}

func TestExample2(t *testing.T) {
	h := newHeap(t, 3, 100, 9)
	for _, l := range [][]api.Prop{{has("get", num(5))}, {has("get", undefined()), has("value", num(1))}, nil} {
		if _, err := ordinary.New(h, null(), l); err != nil {
			t.Fatal(err)
		}
	}
	to(1).is(t, h, 6, nil, typeError())
	to(2).is(t, h, 8, nil, typeError())
	to(3).is(t, h, 6, api.Desc{}, nil)
}

func TestExample3(t *testing.T) {
	h := newHeap(t, 2, 100, 9)
	for _, l := range [][]api.Prop{{has("length", num(2)), has("0", text("a")), has("1", text("b"))}, {has("length", text("3.7"))}} {
		if _, err := ordinary.New(h, null(), l); err != nil {
			t.Fatal(err)
		}
	}
	list(1).is(t, h, 3, []api.Value{text("a"), text("b")}, nil)
	lengthOf(2).is(t, h, 1, 3, nil)
}

func TestExample4(t *testing.T) {
	h := newHeap(t, 1, 100, 9)
	o := made(t, h, null())
	lay(t, h, o, str("a"), api.Desc{Value: num(1), Writable: api.No, Enumerable: api.Yes, Configurable: api.Yes})
	put(o, str("a"), num(2)).is(t, h, 1, nil, typeError())
	if s, _ := h.Shape(o); s.Props[0].Desc.Value != num(1) {
		t.Errorf("%v", s)
	}
	for _, def := range []api.Value{undefined(), num(7), text("x"), ref(1)} {
		species(o, def).is(t, h, 1, def, nil)
	}
}
