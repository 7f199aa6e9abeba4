package args_test

// 13.6, W2, W3, W5: what follows, over arguments objects and acts drawn at random, behind each act and within each function that is called.

import (
	"math/rand"
	"testing"

	"cameo/api"
	"cameo/args"
	"cameo/desc"
	"cameo/heap"
	"cameo/invariant"
	"cameo/ordinary"
)

// watch is the moments of a heap.
type watch struct {
	t       *testing.T
	h       *heap.Heap
	moments []moment
	ties    int // how many were looked at
}

// look holds this moment against what always holds, and against all earlier ones.
func (w *watch) look() {
	if w.h == nil {
		return // it is being built
	}
	m := byPackage().moment(w.h)
	if at := ordinary.Sound(m.shapes); at != -1 {
		w.t.Fatalf("13.6: %d is not sound: %v", at+1, m)
	}
	for o, l := range m.slots {
		w.tied(o+1, m.shapes[o], l)
	}
	for _, before := range w.moments {
		if o, rule := invariant.Broken(before.shapes, m.shapes); rule != 0 {
			w.t.Fatalf("W3: %d breaks the rule %d: %v became %v", o, rule, before, m)
		}
		w.keeps(before, m)
		w.loosens(before, m)
	}
	w.moments = append(w.moments, m)
}

// tied holds what is tied against the parameters: it is data that can be written, and their values.
func (w *watch) tied(o int, s api.Shape, l []slot) {
	for _, x := range l {
		if x.index < 0 {
			continue
		}
		w.ties++
		k := str(string(rune('0' + x.index)))
		d := lying(s, k)
		if d.Writable != api.Yes || !sameValue(d.Value, x.value) {
			w.t.Fatalf("W2: %d: %v is tied to %v", o, d, x)
		}
		fuel := w.h.Fuel()
		w.h.Refuel(2)
		got, ok, err := w.h.GetOwnProperty(o, k)
		v, wrong := w.h.Get(o, k, null())
		w.h.Refuel(fuel)
		if err == api.ErrDepth && wrong == api.ErrDepth {
			continue // too deep within others to ask
		}
		if !ok || err != nil || wrong != nil || !sameDesc(got, d) || !sameValue(v, x.value) {
			w.t.Fatalf("13.6: %d: %v, %v, of %v", o, got, v, x)
		}
	}
}

// keeps holds each property against what it may become (chapter 5).
func (w *watch) keeps(before, m moment) {
	for i, s := range before.shapes {
		for _, p := range s.Props {
			if ok, e := desc.Keeps(p.Desc, lying(m.shapes[i], p.Key)); !ok || e != api.OK {
				w.t.Fatalf("13.6: %d: %v became %v", i+1, p, lying(m.shapes[i], p.Key))
			}
		}
	}
}

// loosens holds that parameters stay those that they are, and that ties only go.
func (w *watch) loosens(before, m moment) {
	for i, l := range before.slots {
		if len(l) != len(m.slots[i]) {
			w.t.Fatalf("13.2: %v became %v", l, m.slots[i])
		}
		for j, x := range l {
			y := m.slots[i][j]
			if x.name != y.name || y.index >= 0 && y.index != x.index {
				w.t.Fatalf("W5: %v became %v", x, y)
			}
		}
	}
}

// 13.6
func TestWhatFollows(t *testing.T) {
	t.Parallel()
	within, ties := 0, 0
	for seed := range int64(1200) {
		w := &watch{t: t}
		h, c := build(t, seed, 12, byPackage(), func() { within++; w.look() })
		w.h = h
		for range 12 {
			h.Refuel(200)
			do(h, c, byPackage())
			w.look()
		}
		ties += w.ties
	}
	if within < 4000 || ties < 20000 {
		t.Errorf("functions looked %d times, at %d ties in all", within, ties)
	}
}

// one is a mapped arguments object alone, in which no function runs.
func one(t *testing.T, c *chance) *heap.Heap {
	t.Helper()
	h := newHeap(t, 2, 100, 5)
	made(t, h, null())
	c.objects = 1
	if o, err := args.Mapped(h, null(), append(c.values(), c.value()), append([]string{"a"}, c.names()...), null()); o != 2 || err != nil {
		t.Fatal(o, err)
	}
	c.objects = 2
	return h
}

// 13.6: a tie goes just by a Delete, an accessor or a read-only definition that answers true; a parameter becomes another one just by a Set, or a definition with a Value, that answers true.
func TestJustSo(t *testing.T) {
	t.Parallel()
	gone, changed := 0, 0
	for seed := range int64(4000) {
		c := &chance{rand.New(rand.NewSource(seed)), 1}
		h := one(t, c)
		for range 12 {
			h.Refuel(100)
			k, v, d, receiver := c.key(), c.value(), c.desc(nil), pick(c, ref(2), ref(2), ref(1), undefined())
			if c.Intn(6) == 0 {
				d = api.Desc{Get: undefined(), Configurable: d.Configurable}
			}
			before := slotsBelow(h, 2, few)
			var ok, loosens bool
			var next api.Value
			switch c.Intn(4) {
			case 0:
				ok, _ = h.Delete(2, k)
				loosens = true
			case 1:
				ok, _ = h.DefineOwnProperty(2, k, d)
				loosens, next = desc.Accessor(d) || d.Writable == api.No, d.Value
			case 2:
				ok, _ = h.Set(2, k, v, receiver)
				if receiver == ref(2) {
					next = v
				}
			case 3:
				h.PreventExtensions(pick(c, 1, 1, 2))
			}
			for j, x := range slotsBelow(h, 2, few) {
				want := before[j]
				if ok && want.index >= 0 && k == str(string(rune('0'+want.index))) {
					if loosens {
						want.index = -1
						gone++
					}
					if next.Kind != api.KNone {
						want.value = next
						changed++
					}
				}
				if !sameSlot(x, want) {
					t.Fatalf("13.6: seed %d, %v: %v became %v, want %v", seed, k, before[j], x, want)
				}
			}
		}
	}
	if gone < 1000 || changed < 2000 {
		t.Errorf("%d loosened, %d changed", gone, changed)
	}
}

// byOrdinary reads an unmapped arguments object as an ordinary one with the same properties.
func byOrdinary() reading {
	by := byPackage()
	by.unmapped = func(h *heap.Heap, proto api.Value, l []api.Value, thrower api.Value) (int, error) {
		return ordinary.New(h, proto, props(l, accessor(thrower, thrower, "")))
	}
	return by
}

// 13.6: an unmapped arguments object answers as an ordinary object with the same properties.
func TestUnmappedIsOrdinary(t *testing.T) {
	t.Parallel()
	for seed := range int64(2500) {
		first, second := byPackage(), byOrdinary()
		one, c := build(t, seed, 6, first, func() {})
		two, d := build(t, seed, 6, second, func() {})
		for n := range 12 {
			one.Refuel(80)
			two.Refuel(80)
			v, err := do(one, c, first)
			w, wrong := do(two, d, second)
			if !sameValue(v, w) || !sameError(err, wrong) || one.Fuel() != two.Fuel() {
				t.Fatalf("13.6: seed %d, act %d: %v, %v, want %v, %v", seed, n, v, err, w, wrong)
			}
			got, want := first.moment(one), second.moment(two)
			for i, s := range got.shapes {
				if s.Class == api.CArguments && len(got.slots[i]) == 0 {
					got.shapes[i].Class = want.shapes[i].Class // which is the one thing that is otherwise
				}
			}
			if !sameMoment(got, want) {
				t.Fatalf("13.6: seed %d, act %d: %v, want %v", seed, n, got, want)
			}
		}
	}
}
