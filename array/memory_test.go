package array_test

// What is handed in is neither changed nor kept, and what is handed out is new memory (R4).

import (
	"slices"
	"testing"
	"unsafe"

	"cameo/api"
	"cameo/array"
)

// spoil writes over a list, and over the room behind its end.
func spoil[T any](l []T, x T) {
	for i := range l[:cap(l)] {
		l[:cap(l)][i] = x
	}
}

func shares(a, b string) bool { return unsafe.StringData(a) == unsafe.StringData(b) }

// 14.4: the list is the caller's, the room behind its end, too.
func TestListsAreTheCallers(t *testing.T) {
	h := newHeap(t, 3, 100, 5)
	made(t, h, null())
	all := []api.Value{num(1), text("x"), ref(1), num(4), num(5)}
	l := all[:3]
	one, two := listed(t, h, l[:2]...), listed(t, h, l...)
	if !slices.Equal(all, []api.Value{num(1), text("x"), ref(1), num(4), num(5)}) {
		t.Errorf("R4: what was handed in is %v", all)
	}
	before := h.Shapes()
	spoil(l, num(99))
	if !sameShapes(h.Shapes(), before) {
		t.Errorf("R4: what was handed in is kept: %v", h.Shapes())
	}
	// Nor do arrays of the same list share anything.
	defines(t, h, two, at(0), api.Desc{Value: num(7)}, true)
	holds(t, h, one, num(1), text("x"))
	holds(t, h, two, num(7), text("x"), ref(1))
}

// 14.5: what is told is the caller's.
func TestAnswersAreTheCallers(t *testing.T) {
	h := newHeap(t, 1, 100, 5)
	word := string([]byte("some word"))
	o := listed(t, h, text(word), num(1), text(word))
	before := h.Shapes()
	for _, most := range []int{1, 2, 3, 9} {
		l, _ := array.Values(h, o, most)
		again, _ := array.Values(h, o, most)
		s, _ := h.Shape(o)
		if shares(l[0].Str, word) || shares(l[0].Str, again[0].Str) || shares(l[0].Str, lying(s, at(0)).Value.Str) {
			t.Error("R4: a string is handed on")
		}
		if len(l) == 3 && shares(l[0].Str, l[2].Str) {
			t.Error("R4: two strings of one answer are one")
		}
		spoil(l, num(99))
		if !slices.Equal(again, []api.Value{text(word), num(1), text(word)}[:len(again)]) || !sameShapes(h.Shapes(), before) {
			t.Errorf("R4: %v", again)
		}
	}
}

// Two heaps know nothing of each other.
func TestHeapsAreApart(t *testing.T) {
	a, b := newHeap(t, 1, 10, 5), newHeap(t, 1, 20, 5)
	listed(t, a, numbers(3)...)
	listed(t, b, numbers(3)...)
	defines(t, a, 1, str("length"), api.Desc{Value: num(1), Writable: api.No}, true)
	holds(t, a, 1, numbers(1)...)
	holds(t, b, 1, numbers(3)...)
	lies(t, b, 1, str("length"), data(num(3), "w"))
	if a.Fuel() != 9 || b.Fuel() != 20 {
		t.Errorf("%d, %d", a.Fuel(), b.Fuel())
	}
}
