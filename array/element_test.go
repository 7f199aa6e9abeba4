package array_test

// 14.1: elements, and keys that are neither these nor length.

import (
	"testing"

	"cameo/api"
	"cameo/desc"
	"cameo/heap"
)

// noIndices is keys of which each one looks like an index, or like length, and is none.
func noIndices() []api.Key {
	return []api.Key{
		str("4294967295"), str("4294967296"), str("18446744073709551616"), str("00"), str("01"), str("-0"), str("-1"), str("+1"), str("1.0"), str("1e0"), str(" 1"), str("1 "), str("0x1"), str(""),
		str("a"), str("Length"), str("length "), str("lengt"), str("NaN"), str("Infinity"), str("\xed\xa0\xbd"), str("١"), sym(1), sym(api.SymIsConcatSpreadable), sym(65536),
	}
}

// descs is all descriptors, of which those that have values have these alone; f can be called.
func descs(f api.Value, values ...api.Value) []api.Desc {
	tris := []api.Tri{api.Absent, api.No, api.Yes}
	var l []api.Desc
	for _, e := range tris {
		for _, c := range tris {
			for _, w := range tris {
				for _, v := range append([]api.Value{{}}, values...) {
					l = append(l, api.Desc{Value: v, Writable: w, Enumerable: e, Configurable: c})
				}
			}
			for _, get := range []api.Value{{}, undefined(), f} {
				for _, set := range []api.Value{{}, undefined(), f} {
					if get != set || get.Kind != api.KNone {
						l = append(l, api.Desc{Get: get, Set: set, Enumerable: e, Configurable: c})
					}
				}
			}
		}
	}
	return l
}

// whole is all descriptors that may lie there.
func whole(f, v api.Value) []api.Desc {
	var l []api.Desc
	for _, flags := range []string{"", "w", "e", "c", "we", "wc", "ec", "wec"} {
		l = append(l, data(v, flags))
	}
	for _, flags := range []string{"", "e", "c", "ec"} {
		l = append(l, accessor(f, undefined(), flags), accessor(f, f, flags))
	}
	return l
}

// begun is a heap with an array (1) of a length, and a function (2); w, x: its length can be written, it is extensible.
func begun(t *testing.T, length int64, w, x bool, first ...api.Prop) *heap.Heap {
	t.Helper()
	h := newHeap(t, 2, 100, 3)
	o := sized(t, h, length)
	fn(t, h)
	for _, p := range first {
		define(t, h, o, p.Key, p.Desc)
	}
	if !w {
		fix(t, h, o)
	}
	if !x {
		shut(t, h, o)
	}
	h.Refuel(100)
	return h
}

func sides(visit func(w, x bool)) {
	for _, w := range []bool{true, false} {
		for _, x := range []bool{true, false} {
			visit(w, x)
		}
	}
}

// defined holds what a definition leaves of an array against what it must leave; done tells whether it must be true.
func defined(t *testing.T, h *heap.Heap, k api.Key, d api.Desc, done bool, turn func(s *api.Shape)) {
	t.Helper()
	want := h.Shapes()
	if done {
		turn(&want[0])
	}
	defines(t, h, 1, k, d, done)
	if got := h.Shapes(); !sameShapes(got, want) {
		t.Errorf("14.1: %v by %v: left %v, want %v", k, d, got[0], want[0])
	}
}

// 14.1: an index that is new, at every edge: the length moves behind it, if it was not greater.
func TestNewElement(t *testing.T) {
	for _, length := range []int64{0, 1, 2, 10, 1<<31 - 1, 1 << 31, 1<<32 - 2, 1<<32 - 1} {
		for _, i := range []int64{0, 1, 2, 3, 9, 10, 11, 1<<31 - 1, 1 << 31, 1<<31 + 1, 1<<32 - 4, 1<<32 - 3, 1<<32 - 2} {
			sides(func(w, x bool) {
				for _, d := range descs(ref(2), num(below0)) {
					next, ok, _ := desc.Apply(x, api.Desc{}, d)
					h := begun(t, length, w, x)
					defined(t, h, at(int(i)), d, ok && (i < length || w), func(s *api.Shape) {
						put(s, at(int(i)), next)
						put(s, str("length"), data(num(float64(max(length, i+1))), "w"[:flagged(w)]))
					})
					long(t, h, 1, uint32(value(t, h).Num))
				}
			})
		}
	}
}

func flagged(w bool) int {
	if w {
		return 1
	}
	return 0
}

// value is the Value of the length of 1.
func value(t *testing.T, h *heap.Heap) api.Value {
	t.Helper()
	s, e := h.Shape(1)
	if e != api.OK {
		t.Fatal(e)
	}
	return lying(s, str("length")).Value
}

// 14.1: an element that is there becomes what an ordinary property would, whether or not the length can be written; that stays.
func TestElementAnew(t *testing.T) {
	for _, now := range whole(ref(2), num(1)) {
		for _, d := range descs(ref(2), num(1), text("b")) {
			sides(func(w, x bool) {
				next, ok, _ := desc.Apply(x, now, d)
				for _, i := range []int{0, 2} { // somewhere, and last
					h := begun(t, 3, w, x, api.Prop{Key: at(i), Desc: now})
					defined(t, h, at(i), d, ok, func(s *api.Shape) { put(s, at(i), next) })
				}
			})
		}
	}
}

// 14.1: a key that is no index and not length is an ordinary property, whatever the length is; that stays.
func TestOtherKeys(t *testing.T) {
	for _, k := range noIndices() {
		for _, length := range []int64{0, 2, 1<<32 - 1} {
			sides(func(w, x bool) {
				for _, d := range descs(ref(2), num(7)) {
					next, ok, _ := desc.Apply(x, api.Desc{}, d)
					h := begun(t, length, w, x)
					defined(t, h, k, d, ok, func(s *api.Shape) { put(s, k, next) })
					if !ok {
						continue
					}
					again, ok, _ := desc.Apply(x, next, data(num(8), "c"))
					defined(t, h, k, data(num(8), "c"), ok, func(s *api.Shape) { put(s, k, again) })
				}
			})
		}
	}
}

// 14.1: what an array's elements are one after the other moves the length up, and never down.
func TestLengthMoves(t *testing.T) {
	h := newHeap(t, 1, 100, 1)
	o := sized(t, h, 0)
	most := 0
	for _, i := range []int{0, 1, 5, 3, 4, 5, 9, 2, 100, 10, 4294967293, 7, 4294967294, 4294967294} {
		defines(t, h, o, at(i), data(num(float64(i)), "wec"), true)
		most = max(most, i+1)
		long(t, h, o, uint32(most))
	}
	for _, i := range []int{4294967294, 100, 0} {
		free(t, h, func() (bool, error) { return h.Delete(o, at(i)) })
		long(t, h, o, 4294967295)
	}
}
