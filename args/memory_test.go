package args_test

// What is handed in is neither changed nor kept, and what is handed out is new memory (R4).

import (
	"slices"
	"testing"
	"unsafe"

	"cameo/api"
	"cameo/args"
)

// spoil writes over a list, and over the room behind its end.
func spoil[T any](l []T, x T) {
	for i := range l[:cap(l)] {
		l[:cap(l)][i] = x
	}
}

func shares(a, b string) bool { return unsafe.StringData(a) == unsafe.StringData(b) }

// 13.1: the lists are the caller's, the room behind their ends, too.
func TestListsAreTheCallers(t *testing.T) {
	h := newHeap(t, 3, 100, 5)
	values := []api.Value{num(1), text("x"), ref(1), num(4), num(5)}
	names := []string{"a", "b", "a", "c", "d"}
	l, n := values[:3], names[:3]
	one, err := args.Mapped(h, null(), l[:2], n, num(1))
	if one != 1 || err != nil {
		t.Fatal(one, err)
	}
	two, err := args.Mapped(h, null(), l, n, num(1))
	if two != 2 || err != nil {
		t.Fatal(two, err)
	}
	three, err := args.Unmapped(h, null(), l, undefined())
	if three != 3 || err != nil {
		t.Fatal(three, err)
	}
	if !slices.Equal(values, []api.Value{num(1), text("x"), ref(1), num(4), num(5)}) || !slices.Equal(names, []string{"a", "b", "a", "c", "d"}) {
		t.Errorf("R4: what was handed in is %v, %v", values, names)
	}
	before := now(h)
	spoil(l, num(99))
	spoil(n, "junk")
	if !sameMoment(now(h), before) {
		t.Errorf("R4: what was handed in is kept: %v", now(h))
	}
	// Nor do objects of the same lists share anything.
	give(t, h, two, "b", num(7))
	yields(t, h, "Set", 3, true, func() (bool, error) { return h.Set(three, str("1"), num(8), ref(three)) })
	has(t, h, one, "b", text("x"))
	tells(t, h, one, str("1"), data(text("x"), "wec"))
}

// 13.3: what is told is the caller's.
func TestAnswersAreTheCallers(t *testing.T) {
	h := newHeap(t, 1, 100, 5)
	name, word := string([]byte("some name")), string([]byte("some word"))
	o, err := args.Mapped(h, null(), []api.Value{text(word), num(1)}, []string{name, "b"}, num(1))
	if err != nil {
		t.Fatal(err)
	}
	before := now(h)
	for range 2 {
		l, _ := args.Names(h, o)
		again, _ := args.Names(h, o)
		if shares(l[0], name) || shares(l[0], again[0]) {
			t.Error("R4: a name is handed on")
		}
		spoil(l, "junk")
		if !slices.Equal(again, []string{name, "b"}) || !sameMoment(now(h), before) {
			t.Errorf("R4: %v", again)
		}
		s, _, _ := args.Linked(h, o, 0)
		other, _, _ := args.Linked(h, o, 0)
		if s != name || shares(s, name) || shares(s, other) || shares(s, again[0]) {
			t.Errorf("R4: Linked: %s", s)
		}
		v, _ := args.Slot(h, o, name)
		w, _ := args.Slot(h, o, name)
		if v != text(word) || shares(v.Str, word) || shares(v.Str, w.Str) {
			t.Errorf("R4: Slot: %v", v)
		}
	}
	spoilShapes := h.Shapes()
	spoil(spoilShapes[0].Props, api.Prop{Key: str("0"), Desc: data(num(9), "")})
	if !sameMoment(now(h), before) {
		t.Error("R4: a shape is what is kept")
	}
}

// Two heaps know nothing of each other.
func TestHeapsAreApart(t *testing.T) {
	a, b := newHeap(t, 1, 10, 5), newHeap(t, 1, 20, 5)
	mapped(t, a, "a", num(1))
	mapped(t, b, "a", num(1))
	give(t, a, 1, "a", num(5))
	yields(t, a, "Delete", 1, true, func() (bool, error) { return a.Delete(1, str("0")) })
	has(t, b, 1, "a", num(1))
	tied(t, b, 1, 0, "a")
	tells(t, b, 1, str("0"), data(num(1), "wec"))
	if a.Fuel() != 9 || b.Fuel() != 20 {
		t.Errorf("%d, %d", a.Fuel(), b.Fuel())
	}
}
