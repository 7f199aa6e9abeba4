package records_test

// 17.1: descriptors as objects: of every sort, which fields are laid, in which order; with every prototype, and with a full heap.

import (
	"testing"

	"cameo/api"
	"cameo/args"
	"cameo/array"
	"cameo/heap"
	"cameo/records"
	"cameo/strobj"
	"cameo/typed"
)

// zoo is a heap with an object of each class that is built so far, and room for so many more: 1 (ordinary), 2 (a native function), 3 (a constructor), 4 (an array), 5 (arguments), 6 (a String object), 7 (a buffer), 8 (a typed array).
func zoo(t *testing.T, room int) *heap.Heap {
	t.Helper()
	h := newHeap(t, 8+room, 0, 9)
	add := func(_ int, err error) {
		t.Helper()
		if err != nil {
			t.Fatal(err)
		}
	}
	made(t, h, null())
	addNative(t, h, func(this api.Value, _ []api.Value) (api.Value, error) { return this, nil })
	class(t, h)
	add(array.Of(h, null(), []api.Value{text("a"), symbol(3)}))
	add(args.Mapped(h, null(), []api.Value{text("x"), text("y")}, []string{"p"}, undefined()))
	add(strobj.New(h, null(), "abc"))
	add(typed.Buffer(h, null(), 4))
	add(typed.New(h, null(), 7, api.TUint8, 0, 3))
	return h
}

const zooLast = 8

func tris() []api.Tri { return []api.Tri{api.Absent, api.No, api.Yes} }

// descs is every sort of descriptor, with these values as Value, and these as Get and Set, which may be absent.
func descs(values, functions []api.Value) []api.Desc {
	var l []api.Desc
	values, functions = append([]api.Value{{}}, values...), append([]api.Value{{}}, functions...)
	for _, e := range tris() {
		for _, c := range tris() {
			for _, v := range values {
				for _, w := range tris() {
					l = append(l, api.Desc{Value: v, Writable: w, Enumerable: e, Configurable: c})
				}
			}
			for _, g := range functions {
				for _, s := range functions {
					if g.Kind != api.KNone || s.Kind != api.KNone {
						l = append(l, api.Desc{Get: g, Set: s, Enumerable: e, Configurable: c})
					}
				}
			}
		}
	}
	return l
}

// laid is what From must lay of a descriptor, said once more, field by field.
func laid(d api.Desc) []api.Prop {
	var l []api.Prop
	if d.Value != (api.Value{}) {
		l = append(l, has("value", d.Value))
	}
	l = append(l, laidFlag("writable", d.Writable)...)
	if d.Get != (api.Value{}) {
		l = append(l, has("get", d.Get))
	}
	if d.Set != (api.Value{}) {
		l = append(l, has("set", d.Set))
	}
	l = append(l, laidFlag("enumerable", d.Enumerable)...)
	return append(l, laidFlag("configurable", d.Configurable)...)
}

func laidFlag(name string, x api.Tri) []api.Prop {
	return map[api.Tri][]api.Prop{api.No: {has(name, no())}, api.Yes: {has(name, yes())}}[x]
}

// Of every sort of descriptor, those whose getter cannot be called among them: a new object with its fields, and nothing else is changed.
func TestFrom(t *testing.T) {
	values := append(plain(), ref(1), ref(2), ref(zooLast))
	functions := []api.Value{undefined(), ref(1), ref(2), ref(4)}
	for i, d := range descs(values, functions) {
		h := zoo(t, 2)
		before := h.Shapes()
		proto := []api.Value{null(), ref(1 + i%zooLast)}[i%2]
		for n := zooLast + 1; n <= zooLast+2; n++ {
			from(d, proto).is(t, h, 0, n, nil)
			s, e := h.Shape(n)
			if want := (api.Shape{Class: api.COrdinary, Proto: proto, Extensible: true, Props: laid(d)}); !sameShape(s, want) || e != api.OK {
				t.Fatalf("17.1: of %v: %v, %v; want %v", d, s, e, want)
			}
		}
		from(d, proto).is(t, h, 0, nil, api.ErrFull)
		if after := h.Shapes(); len(after) != zooLast+2 || !sameShapes(after[:zooLast], before) {
			t.Fatalf("17.1: of %v: %v", d, after)
		}
		if h.Callable(ref(zooLast+1)) || h.Constructor(ref(zooLast+1)) {
			t.Error("17.1: it can be called")
		}
	}
}

// 17.1: with each prototype; what that has is not laid, and hides nothing.
func TestFromWithPrototypes(t *testing.T) {
	d := api.Desc{Get: ref(2), Configurable: api.No}
	for o := 1; o <= zooLast; o++ {
		h := zoo(t, 1)
		for _, s := range names() {
			heap.Ordinary{}.DefineOwnProperty(h, o, str(s), api.Desc{Value: num(5), Writable: api.No})
		}
		from(d, ref(o)).is(t, h, 0, zooLast+1, nil)
		if s, _ := h.Shape(zooLast + 1); !sameShape(s, api.Shape{Class: api.COrdinary, Proto: ref(o), Extensible: true, Props: laid(d)}) {
			t.Errorf("17.1: %v", s)
		}
	}
}

// 17.1: nothing is entered: neither prototypes nor what is in the descriptor is asked for anything, and it is done without fuel, as deep as one may be.
func TestFromEntersNothing(t *testing.T) {
	h, d := newHeap(t, 5, 1, 1), &diary{}
	o := addSeer(t, h, d, null())
	f := addNative(t, h, func(this api.Value, _ []api.Value) (api.Value, error) {
		if h.Fuel() != 0 {
			t.Errorf("%d left", h.Fuel())
		}
		from(api.Desc{Value: ref(o), Writable: api.Yes}, ref(o)).is(t, h, 0, 3, nil)
		from(api.Desc{Get: this, Set: ref(o)}, this).is(t, h, 0, 4, nil)
		return this, nil
	})
	if _, err := h.Call(f.Id, f, nil); err != nil || len(d.lines) != 0 || h.Len() != 4 {
		t.Errorf("17.1: %v, %q", err, d.lines)
	}
}

// 17.1: what lies there can be changed by everybody.
func TestFromIsOpen(t *testing.T) {
	h := newHeap(t, 1, 1000, 9)
	d := api.Desc{Value: num(1), Writable: api.Yes, Enumerable: api.No, Configurable: api.Yes}
	o, err := records.From(h, d, null())
	if err != nil {
		t.Fatal(err)
	}
	put(o, str("value"), num(2)).is(t, h, 3, 0, nil)
	put(o, str("enumerable"), text("x")).is(t, h, 3, 0, nil)
	remove(o, str("writable")).is(t, h, 1, 0, nil)
	create(o, str("configurable"), undefined()).is(t, h, 1, 0, nil)
	to(o).is(t, h, 9, api.Desc{Value: num(2), Enumerable: api.Yes, Configurable: api.No}, nil)
	if d != (api.Desc{Value: num(1), Writable: api.Yes, Enumerable: api.No, Configurable: api.Yes}) {
		t.Error(d)
	}
}
