package heap_test

// Objects of other classes embed the ordinary methods and turn some of them.

import (
	"testing"

	"cameo/api"
	"cameo/heap"
)

// shy is an object that tells its own property a alone, which lies nowhere, and throws of the key z.
type shy struct{ heap.Ordinary }

func (shy) GetOwnProperty(h *heap.Heap, o int, k api.Key) (api.Desc, bool, error) {
	if k == str("z") {
		return api.Desc{}, false, &api.Thrown{Kind: api.XType}
	}
	if k != str("a") {
		return api.Desc{}, false, nil
	}
	return h.Own(o).(api.Desc), true, nil
}

func addShy(t *testing.T, h *heap.Heap, class int, d api.Desc) int {
	t.Helper()
	n, err := h.Add(class, null(), shy{}, d)
	if err != nil {
		t.Fatal(err)
	}
	return n
}

// Chapter 9: the own property is what the object's class says, and it is not entered.
func TestOwnPropertyOfAClass(t *testing.T) {
	h, _ := heap.New(5, 100, 9)
	o := addShy(t, h, api.CString, api.Desc{Value: num(5), Writable: api.No, Enumerable: api.Yes, Configurable: api.No})
	p := made(t, h, ref(o))
	v, e1 := h.Get(p, str("a"), ref(p))
	has, e2 := h.HasProperty(p, str("a"))
	set, e3 := h.Set(p, str("a"), num(1), ref(p))
	gone, e4 := h.Delete(o, str("a"))
	if v != num(5) || !has || set || gone || e1 != nil || e2 != nil || e3 != nil || e4 != nil || h.Fuel() != 100-7 {
		t.Errorf("%v, %v, %v, %v, %v, %v, %v, %v, %d left", v, has, set, gone, e1, e2, e3, e4, h.Fuel())
	}
	if c, e := h.Class(o); c != api.CString || e != api.OK {
		t.Errorf("%d, %d", c, e)
	}
}

// Chapter 9: what an object does not tell as its own is not taken away either.
func TestDeleteOfWhatIsNotTold(t *testing.T) {
	h, _ := heap.New(1, 100, 9)
	o := addShy(t, h, api.CString, api.Desc{})
	define(t, h, o, str("b"), all(num(1)))
	ok, err := h.Delete(o, str("b"))
	if s, _ := h.Shape(o); !ok || err != nil || len(s.Props) != 1 {
		t.Errorf("%v, %v, %v", ok, err, s)
	}
}

// What throws in the midst of a method comes out of it, beside zero values.
func TestOwnPropertyThrows(t *testing.T) {
	h, _ := heap.New(5, 100, 9)
	o := addShy(t, h, api.CString, api.Desc{})
	z := str("z")
	v, e1 := h.Get(o, z, null())
	has, e2 := h.HasProperty(o, z)
	set, e3 := h.Set(o, z, num(1), ref(o))
	gone, e4 := h.Delete(o, z)
	for _, err := range []error{e1, e2, e3, e4} {
		if x, ok := err.(*api.Thrown); !ok || *x != (api.Thrown{Kind: api.XType}) {
			t.Errorf("%v", err)
		}
	}
	p := made(t, h, null())
	on, e5 := h.Set(p, z, num(1), ref(o)) // the receiver is asked, too
	if v != (api.Value{}) || has || set || gone || on || e5 == nil {
		t.Errorf("%v, %v, %v, %v, %v, %v", v, has, set, gone, on, e5)
	}
	if d, ok, err := h.GetOwnProperty(o, z); ok || err == nil || d != (api.Desc{}) {
		t.Errorf("%v, %v, %v", d, ok, err)
	}
}

// Chapter 9: no round of prototypes is made, but behind a proxy nothing is looked at.
func TestRounds(t *testing.T) {
	h := chain(t, 3, 100, 9)
	for _, c := range []struct {
		o    int
		v    api.Value
		want bool
	}{{1, ref(1), false}, {1, ref(2), false}, {1, ref(3), false}, {2, ref(3), false}, {2, ref(1), true}, {3, ref(1), true}, {2, ref(3), true}, {1, null(), true}, {1, ref(2), false}} {
		if ok, err := h.SetPrototypeOf(c.o, c.v); ok != c.want || err != nil {
			t.Errorf("SetPrototypeOf(%d, %v): %v, %v", c.o, c.v, ok, err)
		}
	}
	x, _ := heap.New(3, 100, 9)
	a := made(t, x, null())
	p, err := x.Add(api.CProxy, ref(a), heap.Ordinary{}, nil) // what it says of its prototype is its own matter
	b := made(t, x, ref(p))
	if err != nil {
		t.Fatal(err)
	}
	for _, c := range []struct {
		v    int
		want bool
	}{{a, false}, {b, true}, {p, true}} {
		if ok, err := x.SetPrototypeOf(a, ref(c.v)); ok != c.want || err != nil {
			t.Errorf("SetPrototypeOf(%d, #%d): %v, %v", a, c.v, ok, err)
		}
	}
}

// Objects of other classes are refused as Make refuses ordinary ones.
func TestAdd(t *testing.T) {
	h, _ := heap.New(1, 0, 1)
	for _, c := range []struct {
		proto api.Value
		want  error
	}{{api.Value{}, api.ErrValue}, {num(1), api.ErrValue}, {ref(1), api.ErrRef}, {null(), nil}, {null(), api.ErrFull}, {ref(1), api.ErrFull}, {ref(2), api.ErrRef}} {
		if _, err := h.Add(api.CArray, c.proto, heap.Ordinary{}, 5); err != c.want {
			t.Errorf("%v: %v", c.proto, err)
		}
	}
	if h.Own(1) != 5 || h.Own(0) != nil || h.Own(2) != nil {
		t.Errorf("%v", h.Own(1))
	}
}
