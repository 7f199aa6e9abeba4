package typed_test

// 15.1, 15.2, 15.4: buffers and typed arrays as they are made, and bytes anywhere in a buffer.

import (
	"math"
	"slices"
	"testing"

	"cameo/api"
	"cameo/heap"
	"cameo/typed"
)

// 15.1
func TestBuffer(t *testing.T) {
	for _, n := range []int{0, 1, 2, 7, 8, 255, 256, 65535, 65536} {
		for _, proto := range []api.Value{null(), ref(1), ref(2), ref(3), ref(4), ref(5)} {
			h := all(t, 2)
			before := now(h)
			for b := 11; b <= 12; b++ {
				if got, err := typed.Buffer(h, proto, n); got != b || err != nil {
					t.Fatalf("15.1: %d, %v", got, err)
				}
				holds(t, h, b, make([]byte, n)...)
				want := api.Shape{Class: api.CBuffer, Proto: proto, Extensible: true}
				if s, e := h.Shape(b); !sameShape(s, want) || e != api.OK || gone(h, b) {
					t.Errorf("15.1: %v, %v", s, e)
				}
			}
			if b, err := typed.Buffer(h, proto, n); b != 0 || err != api.ErrFull || h.Len() != 12 || h.Fuel() != 0 {
				t.Errorf("15.1: %d, %v", b, err)
			}
			if m := now(h); !sameShapes(m.shapes[:10], before.shapes) {
				t.Errorf("15.1: the others are %v", m.shapes[:10])
			}
		}
	}
}

// 15.1: each place, and each number of bytes, in buffers of each length up to six.
func TestLay(t *testing.T) {
	for n := range 7 {
		for place := -2; place < 9; place++ {
			for long := range 9 {
				h := newHeap(t, 1, 0, 1)
				want := []byte{91, 92, 93, 94, 95, 96}[:n:n]
				filled(t, h, want...)
				want = slices.Clone(want)
				l := []byte{1, 2, 3, 4, 5, 6, 7, 8}[:long]
				e := typed.Lay(h, 1, place, l)
				if place < 0 || place+long > n {
					if e != api.ErrRange {
						t.Errorf("15.1: Lay(%d of %d, %d): %v", place, n, long, e)
					}
				} else {
					copy(want[place:], l)
					if e != api.OK {
						t.Errorf("15.1: Lay(%d of %d, %d): %v", place, n, long, e)
					}
				}
				holds(t, h, 1, want...)
			}
		}
	}
	h := newHeap(t, 1, 0, 1)
	filled(t, h, make([]byte, api.MaxBuffer)...)
	if e := typed.Lay(h, 1, api.MaxBuffer-1, []byte{7}); e != api.OK {
		t.Errorf("15.1: %v", e)
	}
	if e := typed.Lay(h, 1, api.MaxBuffer, nil); e != api.OK {
		t.Errorf("15.1: %v", e)
	}
	if e := typed.Lay(h, 1, 0, slices.Repeat([]byte{8}, api.MaxBuffer)); e != api.OK {
		t.Errorf("15.1: %v", e)
	}
	holds(t, h, 1, slices.Repeat([]byte{8}, api.MaxBuffer)...)
	for place, long := range map[int]int{api.MaxBuffer: 1, api.MaxBuffer + 1: 0, 0: api.MaxBuffer + 1, math.MaxInt: 1, math.MaxInt - 1: 2, math.MinInt: 1} {
		if e := typed.Lay(h, 1, place, make([]byte, long)); e != api.ErrRange {
			t.Errorf("15.1: Lay(%d, %d): %v", place, long, e)
		}
	}
}

// 15.1: once it is detached it has no bytes, for ever; detaching it again does nothing.
func TestDetach(t *testing.T) {
	for _, n := range []int{0, 1, 8, api.MaxBuffer} {
		h := newHeap(t, 2, 100, 1)
		filled(t, h, make([]byte, n)...)
		over(t, h, 1, api.TUint8, 0, n)
		define(t, h, 1, str("a"), data(num(1), "wec"))
		before := h.Shapes()
		if gone(h, 1) {
			t.Error("15.1: detached from the start")
		}
		for range 3 {
			if e := typed.Detach(h, 1); e != api.OK || h.Fuel() != 100 {
				t.Errorf("15.1: %v", e)
			}
			holds(t, h, 1)
			if e := typed.Lay(h, 1, 0, nil); e != api.OK {
				t.Errorf("15.1: %v", e)
			}
			for place, l := range map[int][]byte{0: {1}, 1: nil, -1: nil} {
				if e := typed.Lay(h, 1, place, l); e != api.ErrRange {
					t.Errorf("15.1: Lay(%d): %v", place, e)
				}
			}
			for _, kind := range kinds() {
				for _, place := range []int{0, 1, api.MaxBuffer, math.MaxInt} {
					if x, err := typed.Read(h, 1, place, kind, true); x != 0 || !sameError(err, typeError()) {
						t.Errorf("15.4: %v, %v", x, err)
					}
					if err := typed.Write(h, 1, place, kind, true, num(1)); !sameError(err, typeError()) {
						t.Errorf("15.4: %v", err)
					}
				}
				if x, err := typed.Read(h, 1, -1, kind, true); x != 0 || !sameError(err, rangeError()) {
					t.Errorf("15.4: %v, %v", x, err)
				}
				if o, err := typed.New(h, null(), 1, kind, 0, 0); o != 0 || !sameError(err, typeError()) {
					t.Errorf("15.2: %v, %v", o, err)
				}
			}
			if p, e := typed.Parts(h, 2); p != [4]int{1, api.TUint8, 0, n} || e != api.OK {
				t.Errorf("15.2: %v, %v", p, e)
			}
		}
		if !sameShapes(h.Shapes(), before) {
			t.Errorf("15.1: %v", h.Shapes())
		}
	}
}

// 15.2: each place and length, of each kind, over buffers of each length up to seventeen.
func TestNew(t *testing.T) {
	for n := range 18 {
		for _, kind := range kinds() {
			h := newHeap(t, 2+18*18, 0, 1)
			filled(t, h, make([]byte, n)...)
			made(t, h, null())
			for place := range 18 {
				for long := range 18 {
					was := h.Len()
					o, err := typed.New(h, ref(2), 1, kind, place, long)
					if place%sizeOf(kind) != 0 || place+long*sizeOf(kind) > n {
						if o != 0 || !sameError(err, rangeError()) || h.Len() != was {
							t.Errorf("15.2: New(%d, %d, %d of %d): %d, %v", kind, place, long, n, o, err)
						}
						continue
					}
					if o != was+1 || err != nil {
						t.Errorf("15.2: New(%d, %d, %d of %d): %d, %v", kind, place, long, n, o, err)
						continue
					}
					want := api.Shape{Class: api.CTyped, Proto: ref(2), Extensible: true}
					if s, e := h.Shape(o); !sameShape(s, want) || e != api.OK {
						t.Errorf("15.2: %v, %v", s, e)
					}
					if p, e := typed.Parts(h, o); p != [4]int{1, kind, place, long} || e != api.OK {
						t.Errorf("15.2: %v, %v", p, e)
					}
				}
			}
			holds(t, h, 1, make([]byte, n)...)
		}
	}
}

// 15.2: as long as can be, and one more; with each prototype, and where there is no room.
func TestNewAtItsEdges(t *testing.T) {
	for _, kind := range kinds() {
		size := sizeOf(kind)
		h := newHeap(t, 5, 0, 1)
		filled(t, h, make([]byte, api.MaxBuffer)...)
		most := api.MaxBuffer / size
		for _, c := range [][2]int{{0, most}, {size, most - 1}, {api.MaxBuffer, 0}, {api.MaxBuffer - size, 1}} {
			if o, err := typed.New(h, ref(h.Len()), 1, kind, c[0], c[1]); o != h.Len() || err != nil {
				t.Errorf("15.2: New(%d, %v): %d, %v", kind, c, o, err)
			}
		}
		before := now(h)
		for _, c := range [][2]int{{0, most}, {0, 0}, {api.MaxBuffer, 0}} {
			if o, err := typed.New(h, null(), 1, kind, c[0], c[1]); o != 0 || err != api.ErrFull {
				t.Errorf("15.2: New(%d, %v): %d, %v", kind, c, o, err)
			}
		}
		for _, c := range [][2]int{{0, most + 1}, {size, most}, {api.MaxBuffer, 1}, {api.MaxBuffer + size, 0}, {0, math.MaxInt}, {0, 1 << 60}, {0, 1 << 61}, {0, 1 << 62}, {0, 1<<62 + 1}, {size, math.MaxInt / size}, {math.MaxInt - math.MaxInt%size, 1}, {math.MaxInt - math.MaxInt%size, 0}, {math.MaxInt - math.MaxInt%size, math.MaxInt}} {
			if o, err := typed.New(h, null(), 1, kind, c[0], c[1]); o != 0 || !sameError(err, rangeError()) {
				t.Errorf("15.2: New(%d, %v): %d, %v", kind, c, o, err)
			}
		}
		if !sameMoment(now(h), before) {
			t.Error("15.2: what is refused changes something")
		}
	}
}

// 15.4: each kind, at each place of a buffer, both ways.
func TestReadAndWrite(t *testing.T) {
	bytes := []byte{0x81, 2, 3, 0xF4, 0x85, 6, 0xC7, 8, 9, 0x9A, 0x7F}
	for _, kind := range kinds() {
		for place := -1; place <= len(bytes)+1; place++ {
			for _, little := range []bool{false, true} {
				h := newHeap(t, 1, 0, 1)
				filled(t, h, bytes...)
				x, err := typed.Read(h, 1, place, kind, little)
				wrong := typed.Write(h, 1, place, kind, little, text("-77.5"))
				if place < 0 || place+sizeOf(kind) > len(bytes) {
					if x != 0 || !sameError(err, rangeError()) || !sameError(wrong, rangeError()) {
						t.Errorf("15.4: %d at %d: %v, %v, %v", kind, place, x, err, wrong)
					}
					holds(t, h, 1, bytes...)
					continue
				}
				there, written := bytes[place:place+sizeOf(kind)], twinBytes(kind, -77.5)
				if little {
					there, written = backwards(there), backwards(written)
				}
				if !sameNumber(x, twinTake(kind, there)) || err != nil || wrong != nil {
					t.Errorf("15.4: %d at %d: %v, %v, %v", kind, place, x, err, wrong)
				}
				want := slices.Clone(bytes)
				copy(want[place:], written)
				holds(t, h, 1, want...)
			}
		}
	}
}

// 15.4: what is written of values of each kind; nothing is entered for those that are no objects.
func TestWriteValues(t *testing.T) {
	for v, want := range map[api.Value]byte{undefined(): 0, null(): 0, yes(): 1, no(): 0, num(300): 44, num(-1): 255, text(" 12 "): 12, text("0xff"): 255, text("x"): 0, text(""): 0, num(endless): 0, num(255.9): 255} {
		h := newHeap(t, 1, 0, 1)
		filled(t, h, 9, 9, 9)
		if err := typed.Write(h, 1, 1, api.TUint8, false, v); err != nil {
			t.Errorf("15.4: %v: %v", v, err)
		}
		holds(t, h, 1, 9, want, 9)
	}
	h := newHeap(t, 2, 3, 1)
	filled(t, h, 9)
	made(t, h, null())
	if err := typed.Write(h, 1, 0, api.TUint8, false, symbol(1)); !sameError(err, typeError()) || h.Fuel() != 3 {
		t.Errorf("15.4: %v", err)
	}
	// An object is asked for three things, each of which is one deep.
	if err := typed.Write(h, 1, 0, api.TUint8, false, ref(2)); !sameError(err, typeError()) || h.Fuel() != 0 {
		t.Errorf("15.4: %v, %d left", err, h.Fuel())
	}
	holds(t, h, 1, 9)
}

// A buffer has the ordinary methods: whatever is done with one, and with an ordinary object, comes to the same, and its bytes stay as they are.
func TestBuffersAreOrdinary(t *testing.T) {
	keys := []api.Key{at(0), at(3), str("-0"), str("00"), str("byteLength"), str("a"), sym(3)}
	build := func() *heap.Heap {
		h := newHeap(t, 6, 100, 3)
		made(t, h, null())
		define(t, h, 1, str("a"), data(num(5), "wec"))
		filled(t, h, 1, 2, 3, 4)
		made(t, h, null())
		for _, o := range []int{2, 3} {
			free(t, h, func() (bool, error) { return h.SetPrototypeOf(o, ref(1)) })
		}
		return h
	}
	for _, gone := range []bool{false, true} {
		h := build()
		if gone {
			detach(t, h, 2)
		}
		before, _ := typed.Bytes(h, 2)
		for _, act := range []func(o int, k api.Key) (any, error){
			func(o int, k api.Key) (any, error) { return h.Get(o, k, null()) },
			func(o int, k api.Key) (any, error) { return h.HasProperty(o, k) },
			func(o int, k api.Key) (any, error) { return h.DefineOwnProperty(o, k, data(text("x"), "wec")) },
			func(o int, k api.Key) (any, error) { return h.Get(o, k, null()) },
			func(o int, k api.Key) (any, error) { return h.Set(o, k, symbol(4), ref(o)) },
			func(o int, k api.Key) (any, error) { d, _, err := h.GetOwnProperty(o, k); return d, err },
			func(o int, k api.Key) (any, error) {
				return h.DefineOwnProperty(o, k, accessor(undefined(), undefined(), "ec"))
			},
			func(o int, k api.Key) (any, error) { return h.Set(o, k, num(1), ref(o)) },
			func(o int, k api.Key) (any, error) { return h.Delete(o, k) },
			func(o int, k api.Key) (any, error) { return h.DefineOwnProperty(o, k, data(num(1), "")) },
			func(o int, k api.Key) (any, error) { return h.Delete(o, k) },
			func(o int, k api.Key) (any, error) { return h.Set(o, k, num(1), ref(o)) },
			func(o int, k api.Key) (any, error) { return h.IsExtensible(o) },
			func(o int, k api.Key) (any, error) { return h.PreventExtensions(o) },
			func(o int, k api.Key) (any, error) { return h.SetPrototypeOf(o, null()) },
			func(o int, k api.Key) (any, error) { return h.GetPrototypeOf(o) },
		} {
			for _, k := range keys {
				h.Refuel(9)
				got, err := act(2, k)
				spent := 9 - h.Fuel()
				h.Refuel(9)
				want, wrong := act(3, k)
				if got != want || !sameError(err, wrong) || spent != 9-h.Fuel() {
					t.Errorf("%v: %v, %v, %d spent; want %v, %v, %d", k, got, err, spent, want, wrong, 9-h.Fuel())
				}
				a, _ := h.Shape(2)
				b, _ := h.Shape(3)
				b.Class = api.CBuffer
				if !sameShape(a, b) {
					t.Errorf("%v: %v; want %v", k, a, b)
				}
				one, _ := h.OwnPropertyKeys(2)
				other, _ := h.OwnPropertyKeys(3)
				if !slices.Equal(one, other) {
					t.Errorf("%v; want %v", one, other)
				}
			}
		}
		holds(t, h, 2, before...)
	}
}
