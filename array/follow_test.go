package array_test

// 14.6, 14.7, 14.8, W2, W3: what follows, over arrays and acts drawn at random, behind each act and within each function that is called.

import (
	"math/rand"
	"testing"

	"cameo/api"
	"cameo/array"
	"cameo/desc"
	"cameo/heap"
	"cameo/invariant"
	"cameo/ordinary"
)

// watch is the moments of a heap.
type watch struct {
	t        *testing.T
	h        *heap.Heap
	moments  [][]api.Shape
	elements int // how many were looked at
}

// look holds this moment against what always holds, and against all earlier ones.
func (w *watch) look() {
	if w.h == nil {
		return // it is being built
	}
	m := w.h.Shapes()
	if at := ordinary.Sound(m); at != -1 {
		w.t.Fatalf("W2: %d is not sound: %v", at+1, m)
	}
	for i, s := range m {
		if s.Class == api.CArray {
			w.array(i+1, s)
		}
	}
	for _, before := range w.moments {
		if o, rule := invariant.Broken(before, m); rule != 0 {
			w.t.Fatalf("14.8: %d breaks the rule %d: %v became %v", o, rule, before, m)
		}
		w.keeps(before, m)
	}
	w.moments = append(w.moments, m)
}

// array holds an array's length against what it must always be, and what the calls tell against what lies there.
func (w *watch) array(o int, s api.Shape) {
	d := lying(s, str("length"))
	n := d.Value.Num
	if !sameDesc(d, data(num(n), "w"[:flagged(d.Writable == api.Yes)])) || n < 0 || n > 4294967295 || n != float64(uint32(n)) {
		w.t.Fatalf("14.6: the length of %d is %v", o, d)
	}
	for _, p := range s.Props {
		if i := numbered(p.Key); i >= 0 {
			w.elements++
			if i >= n {
				w.t.Fatalf("14.6: the length of %d is %v, and it has %v", o, d, p.Key)
			}
		}
	}
	if got, e := array.Length(w.h, o); float64(got) != n || e != api.OK {
		w.t.Fatalf("14.5: Length(%d): %d, %v; want %v", o, got, e, n)
	}
	l, e := array.Values(w.h, o, 20)
	if len(l) != int(min(n, 20)) || e != api.OK {
		w.t.Fatalf("14.5: Values(%d): %v, %v", o, l, e)
	}
	for i, v := range l {
		if !sameValue(v, lying(s, at(i)).Value) {
			w.t.Fatalf("14.5: Values(%d): %v of %v", o, l, s)
		}
	}
}

// keeps holds each property against what it may become (chapter 5).
func (w *watch) keeps(before, m []api.Shape) {
	for i, s := range before {
		for _, p := range s.Props {
			if ok, e := desc.Keeps(p.Desc, lying(m[i], p.Key)); !ok || e != api.OK {
				w.t.Fatalf("14.8: %d: %v became %v", i+1, p, lying(m[i], p.Key))
			}
		}
	}
}

// 14.6, 14.8
func TestWhatFollows(t *testing.T) {
	t.Parallel()
	within, elements := 0, 0
	for seed := range int64(1500) {
		w := &watch{t: t}
		h, c := build(t, seed, 12, byPackage(), func() { within++; w.look() })
		w.h = h
		for range 12 {
			h.Refuel(200)
			do(h, c, byPackage())
			w.look()
		}
		elements += w.elements
	}
	if within < 3000 || elements < 50000 {
		t.Errorf("functions looked %d times, at %d elements in all", within, elements)
	}
}

// 14.7: Get of each index of an array of values is the value, with any receiver, and by a child.
func TestTellsValues(t *testing.T) {
	t.Parallel()
	for seed := range int64(400) {
		c := &chance{rand.New(rand.NewSource(seed)), 2}
		h := newHeap(t, 4, 1<<20, 9)
		made(t, h, null())
		made(t, h, ref(1))
		var l []api.Value
		for range c.Intn(30) {
			l = append(l, c.value())
		}
		o, err := array.Of(h, pick(c, null(), ref(1), ref(2)), l)
		if o != 3 || err != nil {
			t.Fatal(o, err)
		}
		made(t, h, ref(3))
		holds(t, h, o, l...)
		for i, want := range l {
			for asked := 3; asked <= 4; asked++ {
				if v, err := h.Get(asked, at(i), c.value()); !sameValue(v, want) || err != nil {
					t.Fatalf("14.7: Get(%d, %d): %v, %v; want %v", asked, i, v, err, want)
				}
			}
		}
		if v, err := h.Get(3, str("length"), null()); !sameValue(v, num(float64(len(l)))) || err != nil {
			t.Fatalf("14.7: %v, %v", v, err)
		}
	}
}

// some is an array with elements of every kind, and other keys.
func some(t *testing.T, c *chance) *heap.Heap {
	t.Helper()
	h := newHeap(t, 1, 1<<20, 5)
	sized(t, h, int64(c.Intn(5)))
	c.objects = 1
	for range c.Intn(12) {
		h.DefineOwnProperty(1, pick(c, at(c.Intn(12)), at(c.Intn(12)), at(1000+c.Intn(3)), str("a"), str("00"), str("4294967295"), sym(2)), data(c.value(), pick(c, "wec", "wec", "wec", "c", "ec", "we")))
	}
	return h
}

// 14.7: a lesser length that answers true leaves no element that is not below it, and all others; one that answers false leaves those up to the last one that stays. A greater one makes none.
func TestLesserAndGreater(t *testing.T) {
	t.Parallel()
	lesser, greater, refusedSome := 0, 0, 0
	for seed := range int64(6000) {
		c := &chance{rand.New(rand.NewSource(seed)), 1}
		h := some(t, c)
		s, _ := h.Shape(1)
		was := lying(s, str("length")).Value.Num
		n := float64(pick(c, c.Intn(13), c.Intn(1005), int(was)+c.Intn(5)))
		ok, err := h.DefineOwnProperty(1, str("length"), api.Desc{Value: num(n), Writable: pick(c, api.Absent, api.No, api.Yes)})
		if err != nil {
			t.Fatal(err)
		}
		after, _ := h.Shape(1)
		now := lying(after, str("length")).Value.Num
		switch {
		case n >= was:
			greater++
			gone(&s, "length")
			gone(&after, "length")
			if !ok || now != n || !sameShape(s, after) {
				t.Fatalf("14.7: seed %d: %v became %v", seed, s, after)
			}
			continue
		case ok:
			lesser++
			if now != n {
				t.Fatalf("14.7: seed %d: %v", seed, after)
			}
		default:
			refusedSome++
			if now <= n || lying(after, at(int(now)-1)).Configurable != api.No {
				t.Fatalf("14.7: seed %d: %v", seed, after)
			}
		}
		for _, p := range s.Props {
			i := numbered(p.Key)
			kept := lying(after, p.Key)
			if p.Key != str("length") && (i >= now) != (kept == api.Desc{}) || i >= now && p.Desc.Configurable == api.No || i < now && p.Key != str("length") && !sameDesc(kept, p.Desc) {
				t.Fatalf("14.7: seed %d: %v became %v", seed, s, after)
			}
		}
	}
	if min(lesser, greater, refusedSome) < 500 {
		t.Errorf("%d lesser, %d greater, %d false", lesser, greater, refusedSome)
	}
}
