package strobj_test

// 16.2: descriptors of every sort, defined under unit properties and under others, on extensible objects and on others.

import (
	"testing"

	"cameo/api"
	"cameo/heap"
)

// every descriptor that is well formed, with these values and functions as its fields.
func descriptors(values, functions []api.Value) []api.Desc {
	tris := []api.Tri{api.Absent, api.No, api.Yes}
	var l []api.Desc
	for _, e := range tris {
		for _, c := range tris {
			for _, w := range tris {
				for _, v := range append(values, api.Value{}) {
					l = append(l, api.Desc{Value: v, Writable: w, Enumerable: e, Configurable: c})
				}
			}
			for _, get := range append(functions, api.Value{}) {
				for _, set := range append(functions, api.Value{}) {
					if get != set || get != (api.Value{}) {
						l = append(l, api.Desc{Get: get, Set: set, Enumerable: e, Configurable: c})
					}
				}
			}
		}
	}
	return l
}

// odds is a heap with the objects 1 (a native function), 2 (a String object of a, U+1F600 and b); it may be extensible or not.
func odds(t *testing.T, extensible bool) *heap.Heap {
	t.Helper()
	h := newHeap(t, 3, 1<<20, 9)
	addNative(t, h, func(*heap.Heap, api.Value, []api.Value) (api.Value, error) {
		t.Error("16.2: an accessor is called")
		return null(), nil
	})
	of(t, h, null(), "a\U0001f600b")
	if !extensible {
		shut(t, h, 2)
	}
	return h
}

// A unit property may be defined as what it is, in part or in all, and as nothing else; whatever is answered, nothing changes.
func TestDefineUnits(t *testing.T) {
	units := []string{"a", high, low, "b"}
	values := append(plain(), text("b"), text(low), text("A"), text("a "), text("\U0001f600"), text("aa"), ref(1), ref(2))
	for _, extensible := range []bool{true, false} {
		h := odds(t, extensible)
		before := now(h)
		yes := 0
		for i, unit := range units {
			for _, d := range descriptors(values, []api.Value{undefined(), ref(1)}) {
				want := fits(unit, d)
				defines(t, h, 2, at(i), d, want)
				if want {
					yes++
				}
			}
			has(t, h, 2, at(i), data(text(unit), "e"))
		}
		if !sameMoment(now(h), before) {
			t.Errorf("16.2: %v became %v", before, now(h))
		}
		if yes != 4*16 { // Value, Writable No, Enumerable Yes and Configurable No, each there or not
			t.Errorf("16.2: %d are true", yes)
		}
	}
}

// Under all other keys a String object is defined as an ordinary object is that has the same properties.
func TestDefineOthers(t *testing.T) {
	first := []api.Desc{{}, data(num(1), "wec"), data(num(1), "c"), data(num(1), "w"), data(num(1), ""), data(text("a"), "e"), accessor(ref(1), undefined(), "c"), accessor(ref(1), ref(1), "")}
	l := descriptors([]api.Value{num(1), num(below0), text("a")}, []api.Value{undefined(), ref(1)})
	for _, k := range []api.Key{at(4), at(5), str("4294967296"), str("00"), str("-0"), str("x"), str(""), sym(2)} {
		for _, was := range first {
			for _, extensible := range []bool{true, false} {
				for _, d := range l {
					h := odds(t, true)
					o := made(t, h, null())
					define(t, h, o, str("length"), data(num(4), ""))
					if was != (api.Desc{}) {
						define(t, h, 2, k, was)
						define(t, h, o, k, was)
					}
					if !extensible {
						shut(t, h, 2)
						shut(t, h, o)
					}
					want, err := h.DefineOwnProperty(o, k, d)
					if err != nil {
						t.Fatal(err)
					}
					defines(t, h, 2, k, d, want)
					got, _ := h.Shape(2)
					twin, _ := h.Shape(o)
					twin.Class = api.CString
					if !sameShape(got, twin) {
						t.Fatalf("16.2: %v: %v by %v: %v, want %v", k, was, d, got, twin)
					}
				}
			}
		}
	}
}

// The length may be defined as what it is, and as nothing else.
func TestDefineLength(t *testing.T) {
	for _, extensible := range []bool{true, false} {
		h := odds(t, extensible)
		before := now(h)
		yes := 0
		for _, d := range descriptors(append(plain(), num(4), num(3), num(5), text("4")), []api.Value{undefined(), ref(1)}) {
			none := api.Value{}
			want := d.Writable != api.Yes && d.Enumerable != api.Yes && d.Configurable != api.Yes && d.Get == none && d.Set == none && (d.Value == none || d.Value == num(4))
			defines(t, h, 2, str("length"), d, want)
			if want {
				yes++
			}
		}
		if !sameMoment(now(h), before) || yes != 16 {
			t.Errorf("16.4: %d are true; %v became %v", yes, before, now(h))
		}
	}
}

// What is refused ahead of being entered is refused here, too, of unit properties as of others.
func TestDefineRefused(t *testing.T) {
	h := odds(t, true)
	h.Refuel(0)
	before := now(h)
	refuse := func(k api.Key, d api.Desc, want api.Errno) {
		t.Helper()
		if ok, err := h.DefineOwnProperty(2, k, d); ok || err != want {
			t.Errorf("%v by %v: %v, %v; want %v", k, d, ok, err, want)
		}
	}
	for _, k := range []api.Key{at(0), at(3), at(4), str("length")} {
		for _, v := range broken()[1:] { // the first one is no value, which may be absent
			refuse(k, api.Desc{Value: v}, api.ErrValue)
			refuse(k, api.Desc{Get: v}, api.ErrValue)
		}
		refuse(k, api.Desc{Value: text("a"), Get: undefined()}, api.ErrValue)
		refuse(k, api.Desc{Writable: api.No, Set: undefined()}, api.ErrValue)
		refuse(k, api.Desc{Writable: 3}, api.ErrValue)
		refuse(k, api.Desc{Enumerable: -1}, api.ErrValue)
		refuse(k, api.Desc{Get: text("a")}, api.ErrValue)
		refuse(k, api.Desc{Value: ref(9)}, api.ErrRef)
		refuse(k, api.Desc{Set: ref(9)}, api.ErrRef)
		refuse(k, api.Desc{Get: ref(2)}, api.ErrKind)
		refuse(k, api.Desc{}, api.ErrFuel)
	}
	for _, k := range []api.Key{str("\xff"), str(high + low), {Str: "0", Sym: 1}, sym(65537), sym(-1)} {
		refuse(k, api.Desc{}, api.ErrValue)
	}
	if !sameMoment(now(h), before) {
		t.Error("what is refused changes something")
	}
}
