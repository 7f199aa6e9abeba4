package strobj_test

// 16.5, 16.6, 9.13, W2, W3: what follows, over String objects and acts drawn at random, behind each act and within each function that is called.

import (
	"math/rand"
	"slices"
	"testing"

	"cameo/api"
	"cameo/desc"
	"cameo/heap"
	"cameo/invariant"
	"cameo/ordinary"
	"cameo/strobj"
)

// watch is the moments of a heap.
type watch struct {
	t       *testing.T
	h       *heap.Heap
	c       *chance // what receivers are drawn from: not the acts' own, which must not hang on how often one looks
	moments []moment
	units   int // how many were looked at
	looking bool
}

// look holds this moment against what always holds, and against all earlier ones.
func (w *watch) look() {
	if w.h == nil || w.looking {
		return // it is being built, or this is the look's own doing
	}
	w.looking = true
	defer func() { w.looking = false }()
	m := now(w.h)
	if at := ordinary.Sound(m.shapes); at != -1 {
		w.t.Fatalf("W2: %d is not sound: %v", at+1, m.shapes)
	}
	for i, s := range m.shapes {
		if s.Class == api.CString {
			w.text(i+1, s, m.data[i])
		}
	}
	for _, before := range w.moments {
		if o, rule := invariant.Broken(before.shapes, m.shapes); rule != 0 {
			w.t.Fatalf("16.6: %d breaks the rule %d: %v became %v", o, rule, before.shapes, m.shapes)
		}
		w.keeps(before, m)
	}
	w.moments = append(w.moments, m)
}

// text holds a String object against its string, at no cost.
func (w *watch) text(o int, s api.Shape, word string) {
	l := twinUnits(word)
	for _, p := range s.Props {
		if i := numbered(p.Key); i >= 0 && i < len(l) {
			w.t.Fatalf("16.1: %d of %q has the property %v", o, word, p.Key)
		}
	}
	if d := lying(s, str("length")); !sameDesc(d, data(num(float64(len(l))), "")) {
		w.t.Fatalf("16.4: the length of %q is %v", word, d)
	}
	fuel := w.h.Fuel()
	w.h.Refuel(1 << 20)
	defer w.h.Refuel(fuel)
	keys, err := w.h.OwnPropertyKeys(o)
	if err == api.ErrDepth {
		return // there is no room to look
	}
	if len(keys) != len(l)+len(s.Props) || err != nil {
		w.t.Fatalf("16.3: %v, %v of %q and %v", keys, err, word, s)
	}
	var row []uint16
	for i, k := range keys {
		d, ok, err := w.h.GetOwnProperty(o, k)
		has, wrong := w.h.HasProperty(o, k)
		if !ok || err != nil || !has || wrong != nil {
			w.t.Fatalf("9.13: %d tells %v, and has none: %v, %v", o, k, err, wrong)
		}
		if i >= len(l) {
			continue
		}
		w.units++
		v, err := w.h.Get(o, at(i), pick(w.c, null(), w.c.ref()))
		if k != at(i) || err != nil || !sameDesc(d, data(v, "e")) || len(twinUnits(v.Str)) != 1 {
			w.t.Fatalf("16.5: Get(%d, %v): %v, %v; GetOwnProperty: %v", o, k, v, err, d)
		}
		row = append(row, twinUnits(v.Str)...)
	}
	if got := twinString(row); got != word {
		w.t.Fatalf("16.5: the units of %q, put together, are %q", word, got)
	}
}

// keeps holds each property against what it may become (chapter 5), and strings against what they were.
func (w *watch) keeps(before, m moment) {
	for i, s := range before.shapes {
		for _, p := range s.Props {
			if ok, e := desc.Keeps(p.Desc, lying(m.shapes[i], p.Key)); !ok || e != api.OK {
				w.t.Fatalf("9.13: %d: %v became %v", i+1, p, lying(m.shapes[i], p.Key))
			}
		}
		if before.data[i] != m.data[i] || before.errors[i] != m.errors[i] {
			w.t.Fatalf("16.6: Data(%d) was %q, %v, and is %q, %v", i+1, before.data[i], before.errors[i], m.data[i], m.errors[i])
		}
	}
}

// 16.5, 16.6
func TestWhatFollows(t *testing.T) {
	t.Parallel()
	within, units := 0, 0
	for seed := range int64(1500) {
		w := &watch{t: t, c: &chance{rand.New(rand.NewSource(seed)), last}}
		h, c := build(t, seed, 12, byPackage(), func() { within++; w.look() })
		w.h = h
		for range 12 {
			h.Refuel(200)
			do(h, c, byPackage())
			w.look()
		}
		units += w.units
	}
	if within < 2000 || units < 50000 {
		t.Errorf("functions looked %d times, at %d units in all", within, units)
	}
}

// turns is acts that would change a String object's units, if anything could.
func turns(h *heap.Heap, c *chance, o, n int) error {
	k := at(c.Intn(n))
	var err error
	switch c.Intn(6) {
	case 0:
		_, err = h.Set(o, k, c.value(), pick(c, ref(o), c.ref()))
	case 1:
		_, err = h.Set(1+c.Intn(c.objects), k, c.value(), ref(o))
	case 2, 3:
		_, err = h.DefineOwnProperty(o, k, c.desc(nil))
	case 4:
		_, err = h.Delete(o, k)
	case 5:
		_, err = h.SetPrototypeOf(o, pick(c, null(), c.ref()))
	}
	if c.Intn(20) == 0 {
		_, err = h.PreventExtensions(o)
	}
	return err
}

// 16.5: whatever is done, Get of the units is the same, with any receiver, and they stand ahead of all other keys.
func TestUnitsStay(t *testing.T) {
	t.Parallel()
	for seed := range int64(2000) {
		c := &chance{rand.New(rand.NewSource(seed)), 3}
		h := newHeap(t, 3, 1<<30, 9)
		made(t, h, null())
		word := "0" + c.word(30)
		o := of(t, h, pick(c, null(), ref(1)), word)
		of(t, h, ref(o), c.word(8))
		l := twinUnits(word)
		for range 30 {
			if err := turns(h, c, o, len(l)+3); err != nil {
				t.Fatal(err)
			}
			i := c.Intn(len(l))
			if v, err := h.Get(o, at(i), c.value()); v != text(twinUnit(l[i])) || err != nil {
				t.Fatalf("16.5: seed %d: Get(%d) of %q: %v, %v", seed, i, word, v, err)
			}
		}
		keys, err := h.OwnPropertyKeys(o)
		if err != nil || !slices.EqualFunc(keys[:len(l)], l, func(k api.Key, u uint16) bool {
			v, err := h.Get(o, k, c.value())
			return v == text(twinUnit(u)) && err == nil
		}) {
			t.Fatalf("16.5: seed %d: %v, %v", seed, keys, err)
		}
		if s, e := strobj.Data(h, o); s != word || e != api.OK {
			t.Fatalf("16.6: seed %d: %q, %v; want %q", seed, s, e, word)
		}
	}
}
