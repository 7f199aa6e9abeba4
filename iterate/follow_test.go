package iterate_test

// 23.10, W2 and W3: what follows, over objects of every class, iterators, programs and acts drawn at random, behind each act and within each function that is called.

import (
	"slices"
	"strconv"
	"testing"

	"cameo/api"
	"cameo/array"
	"cameo/heap"
	"cameo/invariant"
	"cameo/iterate"
	"cameo/ordinary"
)

// watch is a heap, and its moments so far.
type watch struct {
	t       *testing.T
	h       *heap.Heap
	moments [][]api.Shape
}

// look holds this moment against what always holds, and against the last ones.
func (w *watch) look() {
	if w.h == nil {
		return // it is being built
	}
	shapes := w.h.Shapes()
	if at := ordinary.Sound(shapes); at != -1 {
		w.t.Fatalf("W2: %d is not sound: %v", at+1, shapes)
	}
	for _, before := range w.moments[max(len(w.moments)-3, 0):] {
		if o, rule := invariant.Broken(before, shapes); rule != 0 {
			w.t.Fatalf("W3: %d breaks the rule %d: %s", o, rule, changes(before, shapes))
		}
	}
	w.moments = append(w.moments, shapes)
}

// namesAgree holds what a for-in loop tells against what is in the chain, if no proxy is in it: no name twice; each one is enumerable where it is first, and all such are told.
func namesAgree(t *testing.T, h *heap.Heap, o int) int {
	t.Helper()
	first := map[api.Key]bool{}
	var want []api.Key
	for v := ref(o); v.Kind == api.KRef; {
		if class, _ := h.Class(v.Id); class == api.CProxy || class == api.CNamespace {
			return 0
		}
		keys, err := h.OwnPropertyKeys(v.Id)
		if err != nil {
			return 0
		}
		for _, k := range keys {
			d, there, err := h.GetOwnProperty(v.Id, k)
			if !there || err != nil {
				t.Fatalf("%d has no %v: %v", v.Id, k, err)
			}
			if k.Sym == 0 && !first[k] && d.Enumerable == api.Yes {
				want = append(want, k)
			}
			first[k] = true
		}
		if v, err = h.GetPrototypeOf(v.Id); err != nil {
			return 0
		}
	}
	if l, err := iterate.ForIn(h, ref(o)); err != nil || !slices.Equal(l, want) {
		t.Fatalf("23.10: for-in of %d: %v, %v; want %v", o, l, err, want)
	}
	return 1
}

// stayAtTheirEnd holds of all array iterators: those that are at their end stay there, and nothing is asked.
func stayAtTheirEnd(t *testing.T, h *heap.Heap, ended map[int]bool) {
	t.Helper()
	for o := range ended {
		if h.Len() > 350 {
			return
		}
		fuel := h.Fuel()
		r, err := h.Call(askerA, ref(o), nil)
		if err != nil || fuel-h.Fuel() != 1 || !sameShape(shapeOf(t, h, r.Id), over()) {
			t.Fatalf("23.10: %d was at its end: %v, %v", o, r, err)
		}
	}
}

// endsOf tells which array iterators are at their end, by asking all of them.
func endsOf(h *heap.Heap, ended map[int]bool) {
	for o := 1; o <= h.Len() && h.Len() < 300; o++ {
		if class, _ := h.Class(o); class != api.CIterator || ended[o] {
			continue
		}
		r, err := h.Call(askerA, ref(o), nil)
		if err != nil {
			if isThrow(err) {
				ended[o] = true
			}
			continue
		}
		if s, _ := h.Shape(r.Id); s.Props[1].Desc.Value == yes() {
			ended[o] = true
		}
	}
}

func TestWhatFollows(t *testing.T) {
	t.Parallel()
	within, names, ends := 0, 0, 0
	for seed := range int64(500) {
		w := &watch{t: t}
		by := byPackage()
		h, c := build(t, seed, 400, 12, by, func() { within++; w.look() })
		w.h = h
		w.look()
		ended := map[int]bool{}
		for range 12 {
			h.Refuel(200)
			do(h, c, by)
			w.look()
			h.Refuel(1 << 12)
			for o := 1 + c.Intn(3); o <= lastOf; o += 3 {
				names += namesAgree(t, h, o)
			}
			stayAtTheirEnd(t, h, ended)
			endsOf(h, ended)
			w.look()
		}
		ends += len(ended)
	}
	if within < 500 || names < 5000 || ends < 500 {
		t.Errorf("functions looked %d times; %d names, %d iterators at their end", within, names, ends)
	}
}

// Lists of arrays are their values, holes being undefined; so is what a loop's function is called with; keys are numbers, entries both.
func TestArraysAreTheirValues(t *testing.T) {
	t.Parallel()
	for seed := range int64(600) {
		m := newMidst(t, api.IValues)
		c := newChance(seed, m.h.Len())
		l := make([]api.Value, c.Intn(8))
		o := m.array()
		m.long(o, len(l))
		for i := range l {
			l[i] = undefined()
			if c.Intn(4) > 0 {
				l[i] = c.value()
				lay(t, m.h, o, is(strconv.Itoa(i), data(l[i], pick(c, "wec", "c", ""))))
			}
		}
		if c.Intn(3) == 0 {
			fix(m.h, o)
		}
		held := func(got []api.Value, err error) {
			t.Helper()
			if err != nil || !sameValues(got, l) {
				t.Fatalf("23.10: seed %d: %v, %v; want %v", seed, got, err, l)
			}
		}
		held(iterate.List(m.h, ref(o)))
		var given []api.Value
		f := addNative(t, m.h, func(_ api.Value, l []api.Value) (api.Value, error) {
			given = append(given, l...)
			return undefined(), nil
		})
		_, err := iterate.ForOf(m.h, ref(o), ref(f))
		held(given, err)
		for _, kind := range []int{api.IKeys, api.IEntries} {
			n, err := iterate.Maker(m.h, null(), kind, ref(2))
			p := object(t, m.h, ref(o), marked(api.SymIterator, data(ref(made(t, n, err)), "")))
			all, err := iterate.List(m.h, ref(p))
			if err != nil || len(all) != len(l) {
				t.Fatalf("23.10: seed %d: %v, %v; want %v", seed, all, err, l)
			}
			for i, v := range all {
				if kind == api.IKeys && !sameValue(v, num(float64(i))) {
					t.Fatalf("23.10: seed %d: %v is %d", seed, v, i)
				}
				if kind == api.IKeys {
					continue
				}
				if pair, e := array.Values(m.h, v.Id, 9); e != api.OK || !sameValues(pair, []api.Value{num(float64(i)), l[i]}) {
					t.Fatalf("23.10: seed %d: %v, %v; want %d, %v", seed, pair, e, i, l[i])
				}
			}
		}
	}
}

// Close calls return once at most, whatever it is and does; what was thrown in the loop is what comes out of it, unless something stops.
func TestReturnIsCalledOnce(t *testing.T) {
	t.Parallel()
	for seed := range int64(2000) {
		m := newMidst(t, api.IValues)
		c := newChance(seed, m.h.Len())
		calls, times := 0, 0
		loop, back := pick(c, nil, nil, thrown(c.value()), typeError(), error(api.ErrFull)), pick(c, nil, thrown(num(2)), typeError(), error(api.ErrDepth))
		answer, at := pick(c, ref(1), c.value()), 1+c.Intn(3)
		ret := addNative(t, m.h, func(api.Value, []api.Value) (api.Value, error) {
			if calls++; back != nil {
				return api.Value{}, back
			}
			return answer, nil
		})
		of, _ := counting(t, m, 5)
		lay(t, m.h, m.h.Len()-2, has("return", ref(ret))) // the iterator lies ahead of what answers it, and of what is gone through
		f := addNative(t, m.h, func(api.Value, []api.Value) (api.Value, error) {
			if times++; times < at {
				return undefined(), nil
			}
			return falseBeside(loop), loop
		})
		n, err := iterate.ForOf(m.h, of, ref(f))
		want := error(nil)
		switch {
		case isStop(loop):
			want = loop
		case isStop(back):
			want = back
		case loop != nil:
			want = loop
		case back != nil:
			want = back
		case answer.Kind != api.KRef:
			want = typeError()
		}
		once := 1
		if isStop(loop) {
			once = 0
		}
		if !sameError(err, want) || calls != once || want == nil && n != at || want != nil && n != 0 || isThrow(loop) && !isStop(back) && err != loop {
			t.Fatalf("23.10: seed %d: %d, %v, return called %d times; want %v", seed, n, err, calls, want)
		}
	}
}

// falseBeside is false, or no value beside an error.
func falseBeside(err error) api.Value {
	if err != nil {
		return api.Value{}
	}
	return no()
}
