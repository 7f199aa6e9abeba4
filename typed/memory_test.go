package typed_test

// What is handed in is neither changed nor kept, and what is handed out is new memory (R4).

import (
	"slices"
	"testing"

	"cameo/api"
	"cameo/typed"
)

// spoil writes over a list, and over the room behind its end.
func spoil[T any](l []T, x T) {
	for i := range l[:cap(l)] {
		l[:cap(l)][i] = x
	}
}

// 15.1: what is laid is the caller's, the room behind its end, too.
func TestLaidIsTheCallers(t *testing.T) {
	h := newHeap(t, 1, 0, 1)
	filled(t, h, make([]byte, 4)...)
	whole := []byte{1, 2, 3, 4, 5, 6}
	l := whole[1:3]
	if e := typed.Lay(h, 1, 1, l); e != api.OK || !slices.Equal(whole, []byte{1, 2, 3, 4, 5, 6}) {
		t.Errorf("R4: %v, what was handed in is %v", e, whole)
	}
	spoil(whole, 99)
	holds(t, h, 1, 0, 2, 3, 0)
	// Where the whole of a buffer is laid, too.
	whole = []byte{1, 2, 3, 4, 5, 6}
	typed.Lay(h, 1, 0, whole[:4])
	spoil(whole, 99)
	holds(t, h, 1, 1, 2, 3, 4)
	if err := typed.Write(h, 1, 0, api.TUint8, true, num(9)); err != nil || whole[0] != 99 {
		t.Errorf("R4: %v, %v", err, whole)
	}
}

// 15.1: bytes that are told are the caller's; they stay what they were when the buffer gets others, or is detached.
func TestBytesAreTheCallers(t *testing.T) {
	for _, n := range []int{0, 1, 5, 8, 100, api.MaxBuffer} {
		h := newHeap(t, 2, 10, 1)
		want := slices.Repeat([]byte{7}, n)
		filled(t, h, want...)
		o := over(t, h, 1, api.TUint8, 0, n)
		first, _ := typed.Bytes(h, 1)
		second, _ := typed.Bytes(h, 1)
		spoil(first, 99)
		holds(t, h, 1, want...)
		if !slices.Equal(second, want) {
			t.Error("R4: two answers are one")
		}
		if n > 0 {
			sets(t, h, o, at(0), num(5))
			if second[0] != 7 {
				t.Error("R4: what was told has changed")
			}
			typed.Lay(h, 1, 0, second)
		}
		detach(t, h, 1)
		if !slices.Equal(second, want) {
			t.Error("R4: what was told has changed")
		}
	}
}

// 15.3
func TestPutIsTheCallers(t *testing.T) {
	for _, kind := range kinds() {
		for _, little := range []bool{false, true} {
			first, _ := typed.Put(kind, 3, little)
			second, _ := typed.Put(kind, 3, little)
			want := slices.Clone(second)
			spoil(first, 99)
			if !slices.Equal(second, want) {
				t.Errorf("R4: two answers of Put(%d) are one", kind)
			}
			l := append(slices.Clone(want), 1, 2, 3)
			if x, e := typed.Take(kind, l[:len(want)], little); x != 3 || e != api.OK || !slices.Equal(l, append(want, 1, 2, 3)) {
				t.Errorf("R4: Take(%d): %v, %v, %v", kind, x, e, l)
			}
		}
	}
}

// 15.7: so are keys.
func TestKeysAreTheCallers(t *testing.T) {
	h := newHeap(t, 2, 100, 1)
	filled(t, h, 1, 2, 3)
	o := over(t, h, 1, api.TUint8, 0, 3)
	define(t, h, o, str("a"), data(num(1), "wec"))
	define(t, h, o, sym(2), data(num(1), "wec"))
	want := []api.Key{at(0), at(1), at(2), str("a"), sym(2)}
	first, _ := h.OwnPropertyKeys(o)
	second, _ := h.OwnPropertyKeys(o)
	spoil(first, str("x"))
	third, _ := h.OwnPropertyKeys(o)
	if !slices.Equal(second, want) || !slices.Equal(third, want) {
		t.Errorf("R4: %v, %v", second, third)
	}
	p, _ := typed.Parts(h, o)
	p[0] = 99
	if again, e := typed.Parts(h, o); again != [4]int{1, api.TUint8, 0, 3} || e != api.OK {
		t.Errorf("R4: %v, %v", again, e)
	}
}

// Two heaps know nothing of each other, nor do two buffers.
func TestHeapsAreApart(t *testing.T) {
	a, b := newHeap(t, 3, 10, 5), newHeap(t, 3, 20, 5)
	l := []byte{1, 2, 3}
	filled(t, a, l...)
	filled(t, a, l...)
	filled(t, b, l...)
	sets(t, a, over(t, a, 1, api.TUint8, 0, 3), at(1), num(9))
	holds(t, a, 1, 1, 9, 3)
	holds(t, a, 2, 1, 2, 3)
	holds(t, b, 1, 1, 2, 3)
	detach(t, a, 1)
	holds(t, a, 2, 1, 2, 3)
	holds(t, b, 1, 1, 2, 3)
	if a.Fuel() != 9 || b.Fuel() != 20 {
		t.Errorf("%d, %d", a.Fuel(), b.Fuel())
	}
}
