package invariant_test

// What follows (10.6 to 10.9): over all that is done with a heap, at random, behind each act and within each function that is called; and of moments at random.

import (
	"testing"

	"cameo/api"
	"cameo/desc"
	"cameo/heap"
	"cameo/invariant"
	"cameo/ordinary"
)

// watch is a heap in which things are done at random, and its moments so far.
type watch struct {
	chance
	t       *testing.T
	h       *heap.Heap
	moments [][]api.Shape
	within  int // functions that are under way
	most    int // how many were, at most
}

// function is objects that can be called: what they do is what their class alone has.
type function struct{ heap.Ordinary }

func (function) Call(h *heap.Heap, f int, this api.Value, args []api.Value) (api.Value, error) {
	return h.Own(f).(*watch).body(this)
}

func newWatch(t *testing.T, seed int64) *watch {
	h, e := heap.New(10, 400, 20)
	if e != api.OK {
		t.Fatal(e)
	}
	w := &watch{chance: newChance(seed, false), t: t, h: h}
	for range 2 {
		if _, err := h.Add(api.CNative, null(), function{}, w); err != nil {
			t.Fatal(err)
		}
	}
	for range 2 {
		if _, err := h.Make(null()); err != nil {
			t.Fatal(err)
		}
	}
	return w
}

// body is a function that does a few things itself, and may end by a throw or a stop.
func (w *watch) body(this api.Value) (api.Value, error) {
	w.within++
	w.most = max(w.most, w.within)
	defer func() { w.within-- }()
	w.look()
	for range w.Intn(3) {
		err := w.act()
		w.look()
		if _, stops := err.(api.Errno); stops {
			return api.Value{}, err
		}
	}
	if w.Intn(5) == 0 {
		return api.Value{}, &api.Thrown{Kind: api.XValue, Value: this}
	}
	return this, nil
}

func (w *watch) object() int { return 1 + w.Intn(w.h.Len()) }

func (w *watch) root() api.Value { return pick(w.chance, null(), ref(w.object())) }

// part is a descriptor of which some fields are absent.
func (w *watch) part() api.Desc {
	d := w.desc()
	if w.Intn(2) == 0 {
		d.Enumerable = api.Absent
	}
	if w.Intn(2) == 0 {
		d.Configurable = api.Absent
	}
	if w.Intn(3) == 0 {
		d.Value, d.Get = api.Value{}, api.Value{}
	}
	if w.Intn(3) == 0 {
		d.Writable, d.Set = api.Absent, api.Value{}
	}
	return d
}

// act does one thing.
func (w *watch) act() error {
	o, k := w.object(), w.key()
	var err error
	switch w.Intn(12) {
	case 0:
		_, err = w.h.SetPrototypeOf(o, w.root())
	case 1:
		if w.Intn(3) == 0 {
			_, err = w.h.PreventExtensions(o)
		}
	case 2, 3, 4:
		_, err = w.h.DefineOwnProperty(o, k, w.part())
	case 5, 6, 7:
		_, err = w.h.Set(o, k, w.value(), ref(w.object()))
	case 8, 9:
		_, err = w.h.Delete(o, k)
	case 10:
		_, err = w.h.Get(o, k, ref(o))
	case 11:
		_, err = ordinary.New(w.h, w.root(), []api.Prop{{Key: k, Desc: w.part()}, {Key: w.key(), Desc: w.part()}})
		if err == api.ErrFull {
			err = nil
		}
	}
	return err
}

func (w *watch) look() { w.moments = append(w.moments, w.h.Shapes()) }

// 10.6, and 10.9 of moments that have come about; that the rules see something is told by what is broken backwards.
func TestMomentsOfAHeap(t *testing.T) {
	t.Parallel()
	var back [7]int
	most := 0
	for seed := range int64(150) {
		w := newWatch(t, seed)
		for range 30 {
			w.look()
			w.act()
		}
		w.look()
		for i, before := range w.moments {
			for _, after := range w.moments[i:] {
				if o, rule := invariant.Broken(before, after); o != 0 || rule != 0 {
					t.Fatalf("10.6: %d, %d: from\n%sto\n%s", o, rule, say(before), say(after))
				}
				_, rule := invariant.Broken(after, before)
				back[rule]++
			}
			returns(t, before, w.moments[len(w.moments)-1])
		}
		most = max(most, w.most)
	}
	for _, rule := range []int{api.RLost, api.RProp} {
		if back[rule] < 100 {
			t.Errorf("backwards: %v", back)
		}
	}
	if most < 2 {
		t.Errorf("functions went no deeper than %d", most)
	}
}

// returns holds Patch of a Diff against the later moment, and that a moment is no other than itself.
func returns(t *testing.T, before, after []api.Shape) {
	t.Helper()
	l, e := invariant.Diff(before, after)
	if e != api.OK {
		t.Fatalf("10.9: Diff: %d", e)
	}
	m, e := invariant.Patch(before, l)
	if e != api.OK || !invariant.Same(m, after) || say(m) != say(after) {
		t.Fatalf("10.9: %d,\n%swant\n%s", e, say(m), say(after))
	}
	for _, x := range [][]api.Shape{before, after} {
		if l, e := invariant.Diff(x, copied(x)); len(l) != 0 || e != api.OK {
			t.Fatalf("10.9: of itself: %d,\n%s", e, sayDeltas(l))
		}
	}
	if l, _ := invariant.Diff(m, after); len(l) != 0 {
		t.Fatalf("10.9: there, and still\n%s", sayDeltas(l))
	}
}

// 10.9 of any moments that Diff takes, whatever they say.
func TestThereAndBack(t *testing.T) {
	t.Parallel()
	n := 0
	for seed := range int64(10000) {
		c := newChance(seed, seed%2 == 0)
		before, after := c.moment(), c.moment()
		if seed%3 > 0 {
			after = c.turned(before)
		}
		if len(after) < len(before) {
			before, after = after, before
		}
		if _, e := invariant.Diff(before, after); e == api.OK {
			returns(t, before, after)
			n++
		}
	}
	if n < 2000 {
		t.Errorf("taken: %d", n)
	}
}

// later is a moment that may come behind another one by the rules: others are thrown away.
func (c chance) later(l []api.Shape) []api.Shape {
	for range 20 {
		next := c.turned(l)
		if _, rule := invariant.Broken(l, next); rule == 0 {
			return next
		}
	}
	return copied(l)
}

// 10.7, 10.8
func TestFromOneToTheNext(t *testing.T) {
	t.Parallel()
	steps, frozen, sealed := 0, 0, 0
	for seed := range int64(3000) {
		c := newChance(seed, false)
		row := [][]api.Shape{c.moment()}
		if c.Intn(2) == 0 {
			row[0] = c.firm(row[0])
		}
		for range 4 {
			row = append(row, c.later(row[len(row)-1]))
		}
		for i, before := range row {
			for _, after := range row[i:] {
				if o, rule := invariant.Broken(before, after); o != 0 || rule != 0 {
					t.Fatalf("10.7: %d, %d: from\n%sto\n%s", o, rule, say(before), say(after))
				}
				steps += count(say(before) != say(after))
				for i, s := range before {
					stays(t, s, after[i])
					sealed += count(invariant.Sealed(s) && len(s.Props) > 0)
					frozen += count(invariant.Frozen(s) && len(s.Props) > 0)
				}
			}
		}
	}
	if steps < 1000 || sealed-frozen < 1000 || frozen < 1000 {
		t.Errorf("met: %d, %d, %d", steps, sealed, frozen)
	}
}

// firm is a moment with some shapes sealed, and some frozen.
func (c chance) firm(l []api.Shape) []api.Shape {
	for _, s := range l {
		for i := range s.Props {
			d := &s.Props[i].Desc
			d.Configurable = api.No
			if f, _ := desc.Freeze(*d); f.Writable == api.No && s.Class == api.COrdinary {
				d.Writable = api.No
			}
		}
	}
	for i := range l {
		l[i].Extensible = false
	}
	return l
}

// 10.8
func stays(t *testing.T, was, is api.Shape) {
	t.Helper()
	if invariant.Frozen(was) && !invariant.Sealed(was) {
		t.Fatalf("10.8: frozen, and not sealed: %s", say(moment(was)))
	}
	bad := false
	if invariant.Sealed(was) {
		bad = !invariant.Sealed(is) || sayValue(was.Proto) != sayValue(is.Proto) || len(was.Props) != len(is.Props)
		for _, p := range was.Props {
			bad = bad || where(is.Props, p.Key) < 0
		}
	}
	if invariant.Frozen(was) {
		bad = bad || !invariant.Frozen(is)
		for _, p := range was.Props {
			bad = bad || sayDesc(p.Desc) != sayDesc(is.Props[where(is.Props, p.Key)].Desc)
		}
	}
	if bad {
		t.Fatalf("10.8: %sbecame\n%s", say(moment(was)), say(moment(is)))
	}
}
