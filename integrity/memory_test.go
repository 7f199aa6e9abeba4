package integrity_test

// What is handed in is neither changed nor kept, and what is handed out is new memory (R4).

import (
	"errors"
	"slices"
	"testing"
	"unsafe"

	"cameo/api"
	"cameo/integrity"
)

// spoil writes over a list, and over the room behind its end.
func spoil[T any](l []T, x T) {
	for i := range l[:cap(l)] {
		l[:cap(l)][i] = x
	}
}

// lent is a string that lies in bytes of the caller's.
func lent(bytes []byte) string { return unsafe.String(&bytes[0], len(bytes)) }

// 21.4: a string that Fix hands back is not the caller's.
func TestStringsAreTheCallers(t *testing.T) {
	h := newHeap(t, 1, 10, 5)
	for _, level := range levels() {
		bytes := []byte("some words")
		one, err := integrity.Fix(h, text(lent(bytes)), level)
		two, also := integrity.Fix(h, text(lent(bytes)), level)
		if err != nil || also != nil || unsafe.StringData(one.Str) == &bytes[0] || unsafe.StringData(one.Str) == unsafe.StringData(two.Str) {
			t.Errorf("R4: %v, %v, %v, %v", one, err, two, also)
		}
		if string(bytes) != "some words" {
			t.Errorf("R4: what was handed in is %q", bytes)
		}
		spoil(bytes, 'z')
		spoil(unsafe.Slice(unsafe.StringData(two.Str), len(two.Str)), 'y')
		if one != text("some words") {
			t.Errorf("R4: %v", one)
		}
		if ok, err := integrity.Fixed(h, text(lent(bytes)), level); !ok || err != nil || string(bytes) != "zzzzzzzzzz" {
			t.Errorf("R4: %v, %v, %q", ok, err, bytes)
		}
	}
}

// 21.5: each list is the caller's.
func TestListsAreTheCallers(t *testing.T) {
	h := newHeap(t, 9, 1000, 5)
	for o := 1; o < 9; o++ {
		object(t, h, null(), has("a", ref(o+1)))
	}
	object(t, h, null(), has("a", ref(1)))
	want := []int{1, 2, 3, 4, 5, 6, 7, 8, 9}
	one, _ := integrity.Harden(h, ref(1))
	two, _ := integrity.Harden(h, ref(1))
	if !slices.Equal(one, want) || &one[0] == &two[0] {
		t.Errorf("R4: %v, %v", one, two)
	}
	spoil(one, 77)
	if !slices.Equal(two, want) {
		t.Errorf("R4: %v", two)
	}
	spoil(two, 1)
	harden(ref(1)).is(t, h, 63, want, nil)
	for range 3 {
		l, err := integrity.Harden(h, num(1))
		if len(l) != 0 || err != nil {
			t.Errorf("R4: %v, %v", l, err)
		}
		spoil(l, 5)
	}
}

// What is thrown is the catcher's.
func TestThrowsAreTheCallers(t *testing.T) {
	w := newWorld(t, 1<<20, 9)
	no := w.proxy(w.n["elements"])
	lay(t, w.h, no-1, has("preventExtensions", ref(giving(t, w.h, api.Value{Kind: api.KBool}))))
	for _, x := range []act{seal(w.n["elements"]), freeze(w.n["elements"]), freeze(w.n["bound exports"]), fixing(ref(no), api.LShut), fixing(ref(no), api.LSealed), harden(ref(no)), harden(ref(w.n["elements"]))} {
		for range 3 {
			_, err := x.played(w.h)
			var y *api.Thrown
			if !errors.As(err, &y) || *y != (api.Thrown{Kind: api.XType}) {
				t.Fatalf("R4: %v: %v", x, err)
			}
			y.Kind, y.Value = api.XRange, num(1)
		}
	}
}

// What a program throws comes as it was thrown, not as a copy that nobody else has; nor is it wrapped (DOC.md, Errors).
func TestThrowsAreNotWrapped(t *testing.T) {
	for _, thrown := range []error{&api.Thrown{Kind: api.XValue, Value: ref(1)}, api.Errno(77), api.ErrFull} {
		h := newHeap(t, 9, 1000, 9)
		object(t, h, null(), has("a", num(1)))
		p := trapping(t, h, 1, map[string]does{"ownKeys": func(api.Value, []api.Value) (api.Value, error) { return api.Value{}, thrown }})
		fix(h, 1)
		for _, x := range []act{seal(p), freeze(p), isSealed(p), isFrozen(p), fixing(ref(p), api.LSealed), fixedness(ref(p), api.LFrozen), harden(ref(p))} {
			if s, err := x.played(h); s != "" || err != thrown {
				t.Errorf("%v: %s, %v; want %v", x, s, err, thrown)
			}
		}
	}
}

// Two heaps know nothing of each other.
func TestHeapsAreApart(t *testing.T) {
	one, two := newHeap(t, 2, 100, 5), newHeap(t, 2, 200, 5)
	for range 2 {
		object(t, one, null(), has("a", num(1)))
		object(t, two, null(), has("a", num(1)))
	}
	freeze(1).is(t, one, 4, true, nil)
	looks(t, one, 2, bare(true, has("a", num(1))))
	looks(t, two, 1, bare(true, has("a", num(1))))
	isFrozen(1).is(t, two, 1, false, nil)
	if one.Fuel() != 96 || two.Fuel() != 199 {
		t.Errorf("%d, %d", one.Fuel(), two.Fuel())
	}
}

// What was told of an object ahead of it being frozen stays as it was told.
func TestMomentsStay(t *testing.T) {
	h := newHeap(t, 1, 100, 5)
	object(t, h, null(), has("a", num(1)), has("b", text("x")))
	s := shapeOf(t, h, 1)
	d, _, _ := h.GetOwnProperty(1, str("a"))
	keys, _ := h.OwnPropertyKeys(1)
	freeze(1).is(t, h, 6, true, nil)
	if !sameShape(s, bare(true, has("a", num(1)), has("b", text("x")))) || !sameDesc(d, data(num(1), "wec")) || !slices.Equal(keys, []api.Key{str("a"), str("b")}) {
		t.Errorf("R4: %v, %v, %v", s, d, keys)
	}
	spoil(s.Props, is("junk", data(num(9), "")))
	spoil(keys, str("junk"))
	looks(t, h, 1, bare(false, is("a", data(num(1), "e")), is("b", data(text("x"), "e"))))
}
