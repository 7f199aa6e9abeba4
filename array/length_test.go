package array_test

// 14.5: Length and Values.

import (
	"math"
	"slices"
	"testing"

	"cameo/api"
	"cameo/args"
	"cameo/array"
	"cameo/heap"
)

// others is objects that are no arrays, though some have a length; 1 is an array. The objects 2 to 6 are of every class that there is so far.
func others(t *testing.T) *heap.Heap {
	t.Helper()
	h := newHeap(t, 9, 0, 1)
	listed(t, h, numbers(2)...)
	made(t, h, ref(1))
	define(t, h, 2, str("length"), data(num(1), "w"))
	define(t, h, 2, at(0), data(num(1), "wec"))
	fn(t, h)
	addNative(t, h, nil)
	if o, err := args.Unmapped(h, null(), numbers(2), undefined()); o != 5 || err != nil {
		t.Fatal(o, err)
	}
	if o, err := args.Mapped(h, null(), numbers(2), []string{"a"}, null()); o != 6 || err != nil {
		t.Fatal(o, err)
	}
	return h
}

// 14.5: which refusal comes first.
func TestAskedWrong(t *testing.T) {
	h := others(t)
	before := h.Shapes()
	for _, most := range []int{math.MinInt, -1, 0, 1, api.MaxObjects + 1, math.MaxInt} {
		for _, o := range []int{math.MinInt, -1, 0, 7, 8, 65536, math.MaxInt} {
			if l, e := array.Values(h, o, most); len(l) != 0 || e != api.ErrRef {
				t.Errorf("14.5: Values(%d, %d): %v, %v", o, most, l, e)
			}
			if n, e := array.Length(h, o); n != 0 || e != api.ErrRef {
				t.Errorf("14.5: Length(%d): %d, %v", o, n, e)
			}
		}
		for o := 2; o <= 6; o++ {
			if l, e := array.Values(h, o, most); len(l) != 0 || e != api.ErrKind {
				t.Errorf("14.5: Values(%d, %d): %v, %v", o, most, l, e)
			}
			if n, e := array.Length(h, o); n != 0 || e != api.ErrKind {
				t.Errorf("14.5: Length(%d): %d, %v", o, n, e)
			}
		}
	}
	for _, length := range []int64{0, 2, api.MaxObjects + 1, api.MaxLength} {
		h := newHeap(t, 1, 0, 1)
		o := sized(t, h, length)
		for _, most := range []int{-1, -2, -65537, math.MinInt} {
			if l, e := array.Values(h, o, most); len(l) != 0 || e != api.ErrRange {
				t.Errorf("14.5: Values(%d) of the length %d: %v, %v", most, length, l, e)
			}
		}
	}
	if !sameShapes(h.Shapes(), before) {
		t.Error("14.5: who asks changes something")
	}
}

// 14.5: the lesser one of the length and most counts, against MaxObjects too.
func TestMost(t *testing.T) {
	edges := []int{0, 1, 2, 3, api.MaxObjects - 1, api.MaxObjects, api.MaxObjects + 1, api.MaxLength, api.MaxLength + 1, math.MaxInt}
	for _, length := range []int{0, 1, 2, 3, api.MaxObjects - 1, api.MaxObjects, api.MaxObjects + 1, 1 << 31, api.MaxLength} {
		h := newHeap(t, 1, 0, 1)
		o := sized(t, h, int64(length))
		long(t, h, o, uint32(length))
		for _, most := range edges {
			l, e := array.Values(h, o, most)
			if n := min(length, most); n > api.MaxObjects {
				if len(l) != 0 || e != api.ErrLong {
					t.Errorf("14.5: Values(%d) of the length %d: %d, %v", most, length, len(l), e)
				}
			} else if len(l) != n || e != api.OK || slices.ContainsFunc(l, func(v api.Value) bool { return v != api.Value{} }) {
				t.Errorf("14.5: Values(%d) of the length %d: %d, %v", most, length, len(l), e)
			}
		}
	}
}

// 14.5: values as they lie there, whatever their flags; nothing of a prototype, no getter is called, no other keys are told.
func TestValues(t *testing.T) {
	h := newHeap(t, 5, 100, 5)
	parent := listed(t, h, numbers(9)...)
	f := addNative(t, h, func(*heap.Heap, api.Value, []api.Value) (api.Value, error) { panic("called") })
	o, err := array.Of(h, ref(parent), plain())
	if err != nil {
		t.Fatal(err)
	}
	want := plain()
	holds(t, h, o, want...)
	n := len(want)
	define(t, h, o, at(1), data(ref(o), ""))
	define(t, h, o, at(2), accessor(f, f, "ec"))
	define(t, h, o, at(3), accessor(undefined(), undefined(), "ec"))
	free(t, h, func() (bool, error) { return h.Delete(o, at(4)) })
	define(t, h, o, at(n+2), data(symbol(9), "e"))
	define(t, h, o, str("00"), data(text("no element"), "wec"))
	define(t, h, o, str("4294967295"), data(text("no element"), "wec"))
	define(t, h, o, sym(1), data(text("no element"), "wec"))
	want[1], want[2], want[3], want[4] = ref(o), api.Value{}, api.Value{}, api.Value{}
	want = append(want, api.Value{}, api.Value{}, symbol(9))
	h.Refuel(0)
	holds(t, h, o, want...)
	long(t, h, o, uint32(n+3))
	for most := range n + 6 {
		l, e := array.Values(h, o, most)
		if !slices.EqualFunc(l, want[:min(most, n+3)], sameValue) || e != api.OK {
			t.Errorf("14.5: %d: %v, %v", most, l, e)
		}
	}
}
