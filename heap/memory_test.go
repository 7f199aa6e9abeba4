package heap_test

// What is handed out is new memory, and what is handed in is neither changed nor kept (R4).

import (
	"slices"
	"testing"

	"cameo/api"
	"cameo/heap"
)

// spoil writes over a list, and over the room behind its end.
func spoil[T any](l []T, x T) {
	for i := range l[:cap(l)] {
		l[:cap(l)][i] = x
	}
}

// 7.3
func TestAnswersAreTheCallers(t *testing.T) {
	h := fresh(t, 1000, 5)
	for o := 1; o <= 4; o++ {
		for i, k := range []api.Key{str("b"), str("1"), sym(2), str("a")} {
			define(t, h, o, k, all(num(float64(i))))
		}
	}
	want := h.Shapes()
	wantKeys, _ := h.OwnPropertyKeys(1)
	for range 2 {
		whole, other := h.Shapes(), h.Shapes()
		one, _ := h.Shape(1)
		two, _ := h.Shape(1)
		keys, _ := h.OwnPropertyKeys(1)
		keysAgain, _ := h.OwnPropertyKeys(1)
		junk := api.Prop{Key: str("junk"), Desc: all(num(99))}
		spoil(whole[0].Props, junk)
		if !slices.Equal(whole[1].Props, want[1].Props) {
			t.Error("two shapes of one answer share memory")
		}
		for _, s := range whole {
			spoil(s.Props, junk)
		}
		spoil(whole, api.Shape{Class: 99})
		spoil(one.Props, junk)
		spoil(keys, str("junk"))
		if !sameShapes(other, want) || !slices.Equal(two.Props, want[0].Props) || !slices.Equal(keysAgain, wantKeys) {
			t.Error("two answers share memory")
		}
		agree(t, h, want)
	}
}

// A function is given the arguments as they are, and what it answers is what it has answered; the list that was handed in is not changed.
func TestArgumentsAreTheCallers(t *testing.T) {
	h, _ := heap.New(3, 1000, 5)
	var seen []api.Value
	f := addTo(h, func(d door, f int, this api.Value, args []api.Value) (api.Value, error) {
		seen = slices.Clone(args)
		return ref(f), nil
	}, true)
	room := []api.Value{num(1), text("x"), ref(1), num(4), num(5)}
	args, copied := room[:3], slices.Clone(room)
	if v, err := h.Call(f, null(), args); v != ref(f) || err != nil || !slices.Equal(seen, copied[:3]) {
		t.Errorf("Call: %v, %v, %v", v, err, seen)
	}
	if n, err := h.Construct(f, args, f); n != f || err != nil || !slices.Equal(seen, copied[:3]) {
		t.Errorf("Construct: %v, %v, %v", n, err, seen)
	}
	if !slices.Equal(room, copied) {
		t.Errorf("what was handed in is %v", room)
	}
	o := made(t, h, null())
	define(t, h, o, str("s"), api.Desc{Get: ref(f), Set: ref(f)})
	if _, err := h.Set(o, str("s"), text("v"), null()); err != nil || !slices.Equal(seen, []api.Value{text("v")}) {
		t.Errorf("Set: %v, %v", err, seen)
	}
	if _, err := h.Get(o, str("s"), null()); err != nil || len(seen) != 0 {
		t.Errorf("Get: %v, %v", err, seen)
	}
}

// Two heaps know nothing of each other.
func TestHeapsAreApart(t *testing.T) {
	a, b := fresh(t, 10, 5), fresh(t, 10, 5)
	before := b.Shapes()
	define(t, a, 1, str("a"), all(num(1)))
	made(t, a, null())
	a.PreventExtensions(4)
	if !sameShapes(b.Shapes(), before) || b.Fuel() != 10 || a.Fuel() != 9 {
		t.Errorf("%v, %d, %d", b.Shapes(), b.Fuel(), a.Fuel())
	}
}
