package typed_test

// 15.8, 9.13, W2, W3: what follows, over typed arrays and acts drawn at random, behind each act and within each function that is called.

import (
	"math/rand"
	"slices"
	"testing"

	"cameo/api"
	"cameo/desc"
	"cameo/heap"
	"cameo/invariant"
	"cameo/ordinary"
	"cameo/typed"
)

// watch is the moments of a heap.
type watch struct {
	t        *testing.T
	h        *heap.Heap
	moments  []moment
	elements int // how many were looked at
	looking  bool
}

// look holds this moment against what always holds, and against all earlier ones.
func (w *watch) look() {
	if w.h == nil || w.looking {
		return // it is being built, or this is the look's own doing
	}
	w.looking = true
	defer func() { w.looking = false }()
	m := now(w.h)
	if at := ordinary.Sound(m.shapes); at != -1 {
		w.t.Fatalf("9.13: %d is not sound: %v", at+1, m.shapes)
	}
	for i, s := range m.shapes {
		if s.Class == api.CTyped {
			w.typed(i+1, s, m)
		}
	}
	for _, before := range w.moments {
		if o, rule := invariant.Broken(before.shapes, m.shapes); rule != 0 {
			w.t.Fatalf("9.13: %d breaks the rule %d: %v became %v", o, rule, before.shapes, m.shapes)
		}
		w.keeps(before, m)
	}
	w.moments = append(w.moments, m)
}

// typed holds a typed array against its buffer's bytes, at no cost.
func (w *watch) typed(o int, s api.Shape, m moment) {
	for _, p := range s.Props {
		if _, ok := twinNumeric(p.Key); ok {
			w.t.Fatalf("15.8: %d has the property %v", o, p.Key)
		}
	}
	fuel := w.h.Fuel()
	w.h.Refuel(1 << 20)
	defer w.h.Refuel(fuel)
	b, kind, place, long := m.parts[o-1][0], m.parts[o-1][1], m.parts[o-1][2], m.parts[o-1][3]
	keys, err := w.h.OwnPropertyKeys(o)
	if err == api.ErrDepth {
		return // there is no room to look
	}
	if m.gone[b-1] {
		long = 0
	}
	if len(keys) != long+len(s.Props) || err != nil {
		w.t.Fatalf("15.7: %v, %v of %v", keys, err, s)
	}
	for i, k := range keys {
		d, ok, err := w.h.GetOwnProperty(o, k)
		if !ok || err != nil {
			w.t.Fatalf("9.13: %d tells %v, and has none: %v", o, k, err)
		}
		if i >= long {
			continue
		}
		w.elements++
		first := place + i*sizeOf(kind)
		x, e := typed.Take(kind, m.bytes[b-1][first:first+sizeOf(kind)], true)
		v, err := w.h.Get(o, at(i), null())
		if !sameValue(v, num(x)) || !sameDesc(d, data(v, "wec")) || e != api.OK || err != nil || k != at(i) {
			w.t.Fatalf("15.8: Get(%d, %v): %v, %v; GetOwnProperty: %v; Take: %v, %v", o, k, v, err, d, x, e)
		}
		if has, err := w.h.HasProperty(o, k); !has || err != nil {
			w.t.Fatalf("9.13: HasProperty(%d, %v): %v, %v", o, k, has, err)
		}
	}
}

// keeps holds each property against what it may become (chapter 5), and what buffers and typed arrays are for ever.
func (w *watch) keeps(before, m moment) {
	for i, s := range before.shapes {
		for _, p := range s.Props {
			if ok, e := desc.Keeps(p.Desc, lying(m.shapes[i], p.Key)); !ok || e != api.OK {
				w.t.Fatalf("9.13: %d: %v became %v", i+1, p, lying(m.shapes[i], p.Key))
			}
		}
		if before.parts[i] != m.parts[i] || before.gone[i] && !m.gone[i] || !m.gone[i] && len(before.bytes[i]) != len(m.bytes[i]) {
			w.t.Fatalf("15.1: %d was %v and %v, and is %v and %v", i+1, before.parts[i], before.bytes[i], m.parts[i], m.bytes[i])
		}
	}
}

// 15.8, 9.13
func TestWhatFollows(t *testing.T) {
	t.Parallel()
	within, elements := 0, 0
	for seed := range int64(1500) {
		w := &watch{t: t}
		h, c := build(t, seed, 12, byPackage(), func() { within++; w.look() })
		w.h = h
		for range 12 {
			h.Refuel(200)
			do(h, c, byPackage())
			w.look()
		}
		elements += w.elements
	}
	if within < 2000 || elements < 50000 {
		t.Errorf("functions looked %d times, at %d elements in all", within, elements)
	}
}

// 15.8: giving an element a value, and Put into the bytes, are one, whoever gives it; and each other typed array over the buffer sees it.
func TestGivingIsPutting(t *testing.T) {
	t.Parallel()
	for seed := range int64(4000) {
		c := &chance{rand.New(rand.NewSource(seed)), 1}
		h := newHeap(t, 3, 1<<20, 3)
		bytes := c.bytes(8 * (1 + c.Intn(3)))
		filled(t, h, bytes...)
		kind, other := c.kind(), c.kind()
		first := c.Intn(len(bytes) / sizeOf(kind))
		long := 1 + c.Intn(len(bytes)/sizeOf(kind)-first)
		over(t, h, 1, kind, first*sizeOf(kind), long)
		over(t, h, 1, other, 0, len(bytes)/sizeOf(other))
		i, x := c.Intn(long), odd(c.Rand)
		var ok bool
		var err error
		switch place := (first + i) * sizeOf(kind); c.Intn(3) {
		case 0:
			ok, err = h.Set(2, at(i), num(x), ref(2))
		case 1:
			ok, err = h.DefineOwnProperty(2, at(i), api.Desc{Value: num(x)})
		case 2:
			err = typed.Write(h, 1, place, kind, true, num(x))
			ok = err == nil
		}
		l, e := typed.Put(kind, x, true)
		copy(bytes[(first+i)*sizeOf(kind):], l)
		if !ok || err != nil || e != api.OK {
			t.Fatalf("15.8: seed %d: %v, %v, %v", seed, ok, err, e)
		}
		holds(t, h, 1, bytes...)
		for j := range len(bytes) / sizeOf(other) {
			want, _ := typed.Take(other, bytes[j*sizeOf(other):(j+1)*sizeOf(other)], true)
			tells(t, h, 3, at(j), num(want))
			if got, err := typed.Read(h, 1, j*sizeOf(other), other, true); !sameNumber(got, want) || err != nil {
				t.Fatalf("15.8: seed %d: Read: %v, %v; want %v", seed, got, err, want)
			}
			little := slices.Clone(bytes[j*sizeOf(other) : (j+1)*sizeOf(other)])
			slices.Reverse(little)
			want, _ = typed.Take(other, little, true)
			if got, err := typed.Read(h, 1, j*sizeOf(other), other, false); !sameNumber(got, want) || err != nil {
				t.Fatalf("15.8: seed %d: Read: %v, %v; want %v", seed, got, err, want)
			}
		}
	}
}
