package ordinary_test

// 9.13: what follows, held against all that is done with a heap, at random: behind each act, and within each function that is called.

import (
	"math/rand"
	"slices"
	"testing"

	"cameo/api"
	"cameo/desc"
	"cameo/heap"
	"cameo/ordinary"
)

// watch is a heap in which things are done at random, and its moments so far.
type watch struct {
	t       *testing.T
	r       *rand.Rand
	h       *heap.Heap
	moments [][]api.Shape
	within  int // functions that are under way
	most    int // how many were, at most
}

func newWatch(t *testing.T, seed int64) *watch {
	w := &watch{t: t, r: rand.New(rand.NewSource(seed)), h: newHeap(t, 12, 400, 20)}
	for range 3 {
		addFunction(t, w.h, w.body)
	}
	made(t, w.h, null())
	made(t, w.h, ref(4))
	return w
}

// body is a function that does a few things itself, and may end by a throw or a stop.
func (w *watch) body(h *heap.Heap, f int, this api.Value, args []api.Value) (api.Value, error) {
	w.within++
	w.most = max(w.most, w.within)
	defer func() { w.within-- }()
	w.look()
	for range w.r.Intn(3) {
		err := w.act()
		w.look()
		if _, stops := err.(api.Errno); stops {
			return api.Value{}, err
		}
	}
	if w.r.Intn(5) == 0 {
		return api.Value{}, &api.Thrown{Kind: api.XValue, Value: this}
	}
	return this, nil
}

func (w *watch) object() int { return 1 + w.r.Intn(w.h.Len()) }

func (w *watch) proto() api.Value {
	if w.r.Intn(4) == 0 {
		return null()
	}
	return ref(w.object())
}

func (w *watch) key() api.Key {
	return []api.Key{str("a"), str("b"), str("1"), sym(1)}[w.r.Intn(4)]
}

func (w *watch) value() api.Value {
	return []api.Value{num(1), num(2), text("x"), undefined(), ref(w.object())}[w.r.Intn(5)]
}

func (w *watch) desc() api.Desc {
	tri := func() api.Tri { return api.Tri(w.r.Intn(3)) }
	d := api.Desc{Enumerable: tri(), Configurable: tri()}
	if w.r.Intn(3) == 0 {
		d.Get = []api.Value{{}, undefined(), ref(1), ref(2)}[w.r.Intn(4)]
		d.Set = []api.Value{{}, undefined(), ref(2), ref(3)}[w.r.Intn(4)]
		return d
	}
	d.Writable = tri()
	if w.r.Intn(3) > 0 {
		d.Value = w.value()
	}
	return d
}

// act does one thing.
func (w *watch) act() error {
	o, k := w.object(), w.key()
	var err error
	switch w.r.Intn(12) {
	case 0:
		_, err = w.h.SetPrototypeOf(o, w.proto())
	case 1:
		if w.r.Intn(3) == 0 {
			_, err = w.h.PreventExtensions(o)
		}
	case 2, 3, 4:
		_, err = w.h.DefineOwnProperty(o, k, w.desc())
	case 5, 6, 7:
		_, err = w.h.Set(o, k, w.value(), ref(w.object()))
	case 8:
		_, err = w.h.Delete(o, k)
	case 9, 10:
		_, err = w.h.Get(o, k, w.value())
	case 11:
		_, err = ordinary.New(w.h, w.proto(), []api.Prop{{Key: w.key(), Desc: w.desc()}, {Key: w.key(), Desc: w.desc()}})
		if err == api.ErrFull {
			err = nil
		}
	}
	return err
}

// look holds this moment against the rules, and against all earlier ones.
func (w *watch) look() {
	now := w.h.Shapes()
	if at := ordinary.Sound(now); at != -1 {
		w.t.Fatalf("9.13: %d is not sound: %v", at, now)
	}
	for _, before := range w.moments {
		for i, s := range before {
			w.keeps(i+1, s, now[i])
		}
	}
	w.moments = append(w.moments, now)
}

func lying(s api.Shape, k api.Key) api.Desc {
	for _, p := range s.Props {
		if p.Key == k {
			return p.Desc
		}
	}
	return api.Desc{}
}

func (w *watch) keeps(o int, before, now api.Shape) {
	w.t.Helper()
	for _, p := range before.Props {
		if ok, e := desc.Keeps(p.Desc, lying(now, p.Key)); !ok || e != api.OK {
			w.t.Fatalf("9.13: %d: %v became %v", o, before, now)
		}
	}
	if before.Extensible {
		return
	}
	more := slices.ContainsFunc(now.Props, func(p api.Prop) bool { return lying(before, p.Key) == api.Desc{} })
	if now.Extensible || now.Proto != before.Proto || more {
		w.t.Fatalf("9.13: %d, which is not extensible: %v became %v", o, before, now)
	}
}

// tells holds what the methods say of an object against what lies there; fuel is as it was behind it.
func (w *watch) tells(o int) {
	fuel := w.h.Fuel()
	defer w.h.Refuel(fuel)
	w.h.Refuel(1000)
	s, _ := w.h.Shape(o)
	keys, err := w.h.OwnPropertyKeys(o)
	if len(keys) != len(s.Props) || err != nil {
		w.t.Fatalf("9.13: %v, %v, of %v", keys, err, s)
	}
	for _, k := range keys {
		d, ok, err := w.h.GetOwnProperty(o, k)
		if !ok || err != nil || d != lying(s, k) {
			w.t.Fatalf("9.13: %v, %v, %v, of %v", d, ok, err, s)
		}
		if d.Writable == api.Absent {
			continue
		}
		if v, err := w.h.Get(o, k, null()); v != d.Value || err != nil {
			w.t.Fatalf("9.13: %v, %v, of %v", v, err, d)
		}
	}
	for _, k := range []api.Key{str("a"), str("b"), str("1"), sym(1), str("c")} {
		w.has(o, k)
	}
}

func (w *watch) has(o int, k api.Key) {
	chain, e := ordinary.Chain(w.h, o)
	if e != api.OK {
		w.t.Fatal(e)
	}
	want := slices.ContainsFunc(append(chain, o), func(n int) bool {
		s, _ := w.h.Shape(n)
		return lying(s, k) != api.Desc{}
	})
	if ok, err := w.h.HasProperty(o, k); ok != want || err != nil {
		w.t.Fatalf("9.13: HasProperty(%d, %v): %v, %v", o, k, ok, err)
	}
}

// 9.13
func TestWhatFollows(t *testing.T) {
	t.Parallel()
	most := 0
	for seed := range int64(500) {
		w := newWatch(t, seed)
		for range 40 {
			w.act()
			w.look()
			w.tells(w.object())
		}
		most = max(most, w.most)
	}
	if most < 2 {
		t.Errorf("functions went no deeper than %d", most)
	}
}
