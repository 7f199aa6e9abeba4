package records_test

// 17.5: properties are defined, set and deleted, or it throws.

import (
	"testing"

	"cameo/api"
	"cameo/heap"
)

// someKeys is keys of every sort.
func someKeys() []api.Key {
	return []api.Key{str("a"), str(""), str("0"), str("length"), str("4294967294"), str("\xed\xa0\xbd"), sym(1), sym(65536)}
}

func defined(o string, k api.Key, v api.Value) string {
	return "define " + o + " " + name(k) + " " + tellDesc(open(v))
}

// 17.5: what is entered, of new properties, with values of every kind.
func TestNewProperties(t *testing.T) {
	for _, k := range someKeys() {
		for _, v := range append(plain(), ref(1), ref(2)) {
			two := func(do func(int, api.Key, api.Value) act) func(s stage) act {
				return func(s stage) act {
					o := s.seer(null())
					made(s.t, s.h, null())
					return do(o, k, v)
				}
			}
			scene{"17.5: Create", two(create), []string{defined("#1", k, v)}, 0, nil}.holds(t)
			scene{"17.5: Remove", two(func(o int, k api.Key, _ api.Value) act { return remove(o, k) }), []string{"delete #1 " + name(k)}, 0, nil}.holds(t)
			h := newHeap(t, 2, 6, 2)
			o, p := made(t, h, null()), made(t, h, null())
			put(o, k, v).is(t, h, 3, 0, nil)
			create(p, k, v).is(t, h, 1, 0, nil)
			for _, o := range []int{o, p} {
				if s, _ := h.Shape(o); len(s.Props) != 1 || s.Props[0].Key != k || !sameDesc(s.Props[0].Desc, open(v)) {
					t.Errorf("17.5: %v", s)
				}
			}
			remove(o, k).is(t, h, 1, 0, nil)
			remove(o, k).is(t, h, 1, 0, nil)
			if s, _ := h.Shape(o); len(s.Props) != 0 {
				t.Errorf("17.5: %v", s)
			}
		}
	}
}

// lying is what lies under a key.
func lying(h *heap.Heap, o int, k api.Key) api.Desc {
	d, _, _ := heap.Ordinary{}.GetOwnProperty(h, o, k)
	return d
}

// whole is every whole descriptor of data.
func whole(v api.Value) []api.Desc {
	var l []api.Desc
	for _, w := range tris()[1:] {
		for _, e := range tris()[1:] {
			for _, c := range tris()[1:] {
				l = append(l, api.Desc{Value: v, Writable: w, Enumerable: e, Configurable: c})
			}
		}
	}
	return l
}

// 17.5: over what is there already, extensible or not.
func TestOverProperties(t *testing.T) {
	k := str("a")
	for _, d := range whole(num(1)) {
		for _, shutUp := range []bool{false, true} {
			for _, v := range []api.Value{num(1), num(2)} {
				over := func(x act, cost int, want api.Desc, ok bool) {
					t.Helper()
					h := newHeap(t, 1, 9, 2)
					o := made(t, h, null())
					lay(t, h, o, k, d)
					if shutUp {
						shut(h, o)
					}
					wrong := typeError()
					if ok {
						wrong = nil
					} else {
						want = d
					}
					x.is(t, h, cost, 0, wrong)
					if now := lying(h, o, k); now != want {
						t.Errorf("17.5: %s over %v: %v, want %v", x.name, d, now, want)
					}
				}
				// What is not configurable never becomes so: Create fails there, though the value may be the same.
				over(create(1, k, v), 1, open(v), d.Configurable == api.Yes)
				set := d
				set.Value = v
				cost := 1
				if d.Writable == api.Yes {
					cost = 3
				}
				over(put(1, k, v), cost, set, d.Writable == api.Yes)
				over(remove(1, k), 1, api.Desc{}, d.Configurable == api.Yes)
			}
		}
	}
}

// 17.5: an object that is not extensible gets nothing new; that it loses nothing there is true.
func TestShut(t *testing.T) {
	h := newHeap(t, 1, 100, 2)
	o := made(t, h, null())
	shut(h, o)
	create(o, str("a"), num(1)).is(t, h, 1, nil, typeError())
	put(o, str("a"), num(1)).is(t, h, 3, nil, typeError())
	remove(o, str("a")).is(t, h, 1, 0, nil)
	if s, _ := h.Shape(o); len(s.Props) != 0 {
		t.Errorf("17.5: %v", s)
	}
}

// 17.5: Put goes up the chain, and lays on the object itself; setters are called with it.
func TestPutInherited(t *testing.T) {
	lines := []string{"set #2 a 5 #2", "set #1 a 5 #2", "call setter #2 5"}
	scene{"17.5: a setter", func(s stage) act {
		base := s.seer(null())
		o := s.seer(ref(base))
		lay(s.t, s.h, base, str("a"), api.Desc{Set: s.ending("setter", no(), nil)})
		return put(o, str("a"), num(5))
	}, lines, 0, nil}.holds(t)
	scene{"17.5: no setter", func(s stage) act {
		base := s.seer(null())
		lay(s.t, s.h, base, str("a"), api.Desc{Get: s.ending("getter", no(), nil)})
		return put(s.seer(ref(base)), str("a"), num(5))
	}, []string{"set #3 a 5 #3", "set #1 a 5 #3"}, nil, typeError()}.holds(t)
	scene{"17.5: read-only above", func(s stage) act {
		base := s.seer(null(), api.Prop{Key: str("a"), Desc: api.Desc{Value: num(1)}})
		return put(s.seer(ref(base)), str("a"), num(5))
	}, []string{"set #2 a 5 #2", "set #1 a 5 #2"}, nil, typeError()}.holds(t)
	h := newHeap(t, 2, 100, 3)
	base := made(t, h, null())
	o := made(t, h, ref(base))
	lay(t, h, base, str("a"), open(num(1)))
	put(o, str("a"), num(5)).is(t, h, 4, 0, nil)
	if lying(h, base, str("a")).Value != num(1) || !sameDesc(lying(h, o, str("a")), open(num(5))) {
		t.Errorf("17.5: %v", h.Shapes())
	}
	// Create hides what is above, whatever it is; Remove does not go up.
	lay(t, h, base, str("b"), api.Desc{Value: num(1)})
	create(o, str("b"), num(2)).is(t, h, 1, 0, nil)
	remove(o, str("b")).is(t, h, 1, 0, nil)
	remove(o, str("b")).is(t, h, 1, 0, nil)
	if lying(h, base, str("b")).Value != num(1) {
		t.Errorf("17.5: %v", h.Shapes())
	}
}

// 17.5: accessors: Create turns one that is configurable into data, Remove takes it away.
func TestOverAccessors(t *testing.T) {
	for _, c := range tris()[1:] {
		h := newHeap(t, 2, 100, 2)
		o := made(t, h, null())
		f := giving(t, h, num(1))
		d := api.Desc{Get: f, Set: undefined(), Enumerable: api.No, Configurable: c}
		lay(t, h, o, str("a"), d)
		put(o, str("a"), num(2)).is(t, h, 1, nil, typeError())
		if c == api.No {
			create(o, str("a"), num(2)).is(t, h, 1, nil, typeError())
			remove(o, str("a")).is(t, h, 1, nil, typeError())
			if !sameDesc(lying(h, o, str("a")), d) {
				t.Errorf("17.5: %v", h.Shapes())
			}
			continue
		}
		create(o, str("a"), num(2)).is(t, h, 1, 0, nil)
		if !sameDesc(lying(h, o, str("a")), open(num(2))) {
			t.Errorf("17.5: %v", h.Shapes())
		}
		remove(o, str("a")).is(t, h, 1, 0, nil)
	}
}

// 17.5: objects of other classes, by their own methods.
func TestOfEveryClass(t *testing.T) {
	h := zoo(t, 0)
	h.Refuel(1000)
	// An array's length goes with its elements.
	create(4, at(5), num(1)).is(t, h, 1, 0, nil)
	lengthOf(4).is(t, h, 1, 6, nil)
	put(4, str("length"), num(1)).is(t, h, 3, 0, nil)
	put(4, str("length"), num(1.5)).is(t, h, 3, nil, rangeError())
	create(4, str("length"), num(1)).is(t, h, 1, nil, typeError())
	remove(4, str("length")).is(t, h, 1, nil, typeError())
	list(4).is(t, h, 2, []api.Value{text("a")}, nil)
	// A String object's units stay.
	put(6, at(0), text("x")).is(t, h, 1, nil, typeError())
	create(6, at(0), text("a")).is(t, h, 1, nil, typeError())
	remove(6, at(2)).is(t, h, 1, nil, typeError())
	create(6, at(3), text("d")).is(t, h, 1, 0, nil)
	remove(6, at(3)).is(t, h, 1, 0, nil)
	// A typed array's elements are written, and never taken away.
	put(8, at(0), num(257)).is(t, h, 1, 0, nil)
	create(8, at(1), num(2)).is(t, h, 1, 0, nil)
	remove(8, at(1)).is(t, h, 1, nil, typeError())
	create(8, at(3), num(2)).is(t, h, 1, nil, typeError())
	if v, err := h.Get(8, at(0), null()); v != num(1) || err != nil {
		t.Errorf("17.5: %v, %v", v, err)
	}
	// Arguments are written as properties are.
	put(5, at(0), num(8)).is(t, h, 3, 0, nil)
	list(5).is(t, h, 3, []api.Value{num(8), text("y")}, nil)
}
