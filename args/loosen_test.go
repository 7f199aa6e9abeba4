package args_test

// 13.6, W5: every way in which a tie is loosened, every one in which it is not, and that it is never tied again.

import (
	"testing"

	"cameo/api"
	"cameo/args"
	"cameo/heap"
)

// deed is something that is done with the object 2, whose index 0 is tied to a; 1 is a function. value is what the parameter has behind it, where it was 1.
type deed struct {
	name  string
	value api.Value
	do    func(h *heap.Heap) (bool, error)
}

func defining(name string, v api.Value, d api.Desc) deed {
	return deed{name, v, func(h *heap.Heap) (bool, error) { return h.DefineOwnProperty(2, str("0"), d) }}
}

func deleted(k string) deed {
	return deed{k + " deleted", num(1), func(h *heap.Heap) (bool, error) { return h.Delete(2, str(k)) }}
}

func set(k string, v api.Value) deed {
	return deed{k + " set", v, func(h *heap.Heap) (bool, error) { return h.Set(2, str(k), v, ref(2)) }}
}

// loosening is deeds that loosen the tie.
func loosening() []deed {
	return []deed{
		deleted("0"),
		defining("a getter", num(1), api.Desc{Get: ref(1)}),
		defining("a setter", num(1), api.Desc{Set: ref(1)}),
		defining("neither", num(1), api.Desc{Get: undefined(), Set: undefined(), Enumerable: api.No}),
		defining("no getter", num(1), api.Desc{Get: undefined()}),
		defining("no setter", num(1), api.Desc{Set: undefined(), Configurable: api.No}),
		defining("read-only", num(1), api.Desc{Writable: api.No}),
		defining("read-only with its value", num(1), api.Desc{Writable: api.No, Value: num(1)}),
		defining("read-only with another one", num(9), api.Desc{Writable: api.No, Value: num(9)}),
		defining("read-only with undefined", undefined(), api.Desc{Writable: api.No, Value: undefined(), Enumerable: api.Yes, Configurable: api.Yes}),
		defining("frozen", num(1), api.Desc{Writable: api.No, Configurable: api.No}),
	}
}

// keeping is deeds that loosen nothing.
func keeping() []deed {
	return []deed{
		defining("nothing", num(1), api.Desc{}),
		defining("writable", num(1), api.Desc{Writable: api.Yes}),
		defining("its value", num(1), api.Desc{Value: num(1)}),
		defining("another value", num(9), api.Desc{Value: num(9)}),
		defining("undefined", undefined(), api.Desc{Value: undefined(), Writable: api.Yes}),
		defining("hidden", num(1), api.Desc{Enumerable: api.No}),
		defining("fixed", num(1), api.Desc{Configurable: api.No}),
		defining("all anew", num(9), data(num(9), "wec")),
		set("0", num(9)), set("2", num(1)), set("length", num(1)), deleted("length"), deleted("2"),
		{"shut", num(1), func(h *heap.Heap) (bool, error) { return h.PreventExtensions(2) }},
		{"another prototype", num(1), func(h *heap.Heap) (bool, error) { return h.SetPrototypeOf(2, ref(1)) }},
	}
}

func knot(t *testing.T) *heap.Heap {
	t.Helper()
	h := newHeap(t, 2, 1000, 5)
	addNative(t, h, func(*heap.Heap, api.Value, []api.Value) (api.Value, error) { return text("told"), nil })
	mapped(t, h, "ab", numbers(3)...)
	return h
}

func must(t *testing.T, h *heap.Heap, d deed) {
	t.Helper()
	if ok, err := d.do(h); !ok || err != nil {
		t.Fatalf("%s: %v, %v", d.name, ok, err)
	}
}

// apart holds that the index 0 and the parameter a have nothing to do with each other, whatever is done from now on.
func apart(t *testing.T, h *heap.Heap) {
	t.Helper()
	tied(t, h, 2, 0, "")
	s, _ := h.Shape(2)
	give(t, h, 2, "a", text("aside"))
	if after, _ := h.Shape(2); !sameShape(after, s) {
		t.Errorf("13.6: a parameter that is not tied has changed %v to %v", s, after)
	}
	for _, d := range []deed{
		defining("writable", num(1), api.Desc{Writable: api.Yes}), deleted("0"), defining("all anew", num(5), data(num(5), "wec")), defining("a value", num(6), api.Desc{Value: num(6)}), set("0", num(7)),
		defining("an accessor", num(7), api.Desc{Get: undefined()}), defining("data", num(8), data(num(8), "wec")), deleted("0"), set("0", num(7)), defining("read-only", num(7), api.Desc{Writable: api.No}),
	} {
		d.do(h)
		tied(t, h, 2, 0, "")
		has(t, h, 2, "a", text("aside"))
	}
	tied(t, h, 2, 1, "b")
}

// 13.6
func TestLoosened(t *testing.T) {
	for _, x := range loosening() {
		h := knot(t)
		must(t, h, x)
		has(t, h, 2, "a", x.value)
		apart(t, h)
		// Of one that was fixed, and that could be written still, too.
		h = knot(t)
		define(t, h, 2, str("0"), api.Desc{Configurable: api.No})
		if ok, err := x.do(h); err != nil {
			t.Error(err)
		} else if !ok {
			tied(t, h, 2, 0, "a")
			has(t, h, 2, "a", num(1))
			continue
		}
		has(t, h, 2, "a", x.value)
		apart(t, h)
	}
}

// 13.6
func TestNotLoosened(t *testing.T) {
	for _, x := range keeping() {
		for _, y := range keeping() {
			h := knot(t)
			must(t, h, x)
			has(t, h, 2, "a", x.value)
			y.do(h)
			tied(t, h, 2, 0, "a")
			v, _ := args.Slot(h, 2, "a")
			s, _ := h.Shape(2)
			tells(t, h, 2, str("0"), lying(s, str("0")))
			if lying(s, str("0")).Value != v || lying(s, str("0")).Writable != api.Yes {
				t.Errorf("13.6: %s, %s: %v, %v", x.name, y.name, v, s)
			}
			give(t, h, 2, "a", text("both"))
			if v, err := h.Get(2, str("0"), null()); v != text("both") || err != nil {
				t.Errorf("13.6: %s, %s: %v, %v", x.name, y.name, v, err)
			}
		}
	}
}

// 13.6: behind what keeps it, each way loosens it just as well.
func TestLoosenedLater(t *testing.T) {
	for _, x := range keeping() {
		for _, y := range loosening() {
			h := knot(t)
			must(t, h, x)
			give(t, h, 2, "a", num(1))
			ok, err := y.do(h)
			switch {
			case err != nil:
				t.Errorf("%s, %s: %v", x.name, y.name, err)
			case ok:
				has(t, h, 2, "a", y.value)
				apart(t, h)
			default:
				has(t, h, 2, "a", num(1))
				tied(t, h, 2, 0, "a")
			}
		}
	}
}

// 13.2: an index for which there was no member is never tied, though a property comes to lie there.
func TestNeverTied(t *testing.T) {
	h := newHeap(t, 1, 100, 5)
	o := mapped(t, h, "aabc", numbers(2)...)
	for i, k := range []string{"0", "2", "3"} {
		yields(t, h, "Set", 3, true, func() (bool, error) { return h.Set(o, str(k), num(float64(i)), ref(o)) })
		yields(t, h, "Define", 1, true, func() (bool, error) { return h.DefineOwnProperty(o, str(k), api.Desc{Value: num(7)}) })
	}
	for i, name := range []string{"", "a", "", "", ""} {
		tied(t, h, o, i, name)
	}
	has(t, h, o, "a", num(2))
	has(t, h, o, "b", undefined())
	give(t, h, o, "b", num(9))
	tells(t, h, o, str("2"), data(num(7), "wec"))
}
