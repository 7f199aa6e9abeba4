package call_test

// Bodies at random: both readings answer the same, cost the same, and leave the same (11.3, 11.4); and what follows of them (11.5).

import (
	"math/rand"
	"testing"

	"cameo/api"
	"cameo/call"
	"cameo/desc"
	"cameo/heap"
	"cameo/invariant"
	"cameo/ordinary"
)

// chance makes things up at random, over a heap of so many objects.
type chance struct {
	*rand.Rand
	objects int
}

func pick[T any](c *chance, l ...T) T { return l[c.Intn(len(l))] }

func (c *chance) ref() api.Value { return ref(1 + c.Intn(c.objects)) }

func (c *chance) value() api.Value {
	if c.Intn(2) == 0 {
		return c.ref()
	}
	return pick(c, undefined(), null(), yes(), no(), num(0), num(1), num(-2.5), text(""), text("a"), text("prototype"), symbol(3))
}

func (c *chance) key() api.Key {
	return pick(c, str("a"), str("a"), str("b"), str("1"), sym(3), str("prototype"), str("undefined"))
}

// reg is a low register mostly, so that operations meet.
func (c *chance) reg() int { return pick(c, 0, 0, 1, 1, 2, 3, 15) }

// desc is a descriptor, whose getter and setter are among some functions.
func (c *chance) desc(functions []int) api.Desc {
	tri := func() api.Tri { return api.Tri(c.Intn(3)) }
	d := api.Desc{Enumerable: tri(), Configurable: pick(c, api.Yes, tri())}
	if len(functions) > 0 && c.Intn(3) == 0 {
		f := func() api.Value {
			return pick(c, api.Value{}, undefined(), ref(pick(c, functions...)), ref(pick(c, functions...)))
		}
		d.Get, d.Set = f(), f()
		return d
	}
	d.Writable = pick(c, api.Yes, tri())
	if c.Intn(3) > 0 {
		d.Value = c.value()
	}
	return d
}

// op is a sound operation.
func (c *chance) op(functions []int) api.Op {
	o := api.Op{Code: 1 + c.Intn(24), To: c.reg(), A: c.reg(), B: c.reg(), C: c.reg(), Key: c.key(), Val: c.value(), Flag: c.Intn(2) == 0, Catch: c.Intn(3) == 0}
	if c.Intn(4) == 0 {
		o.Code = pick(c, api.OConst, api.OThis, api.OArg, api.OSelf)
	}
	if o.Code == api.OPrevent && c.Intn(3) > 0 || o.Code == api.OReturn && c.Intn(2) > 0 {
		o.Code = api.OCall
	}
	if o.Code == api.ODefine {
		o.Desc = c.desc(functions)
		o.Flag = o.Flag && o.Desc.Get.Kind == 0 && o.Desc.Set.Kind == 0
	}
	return o
}

func (c *chance) body(functions []int) []api.Op {
	l := []api.Op{constant(0, c.ref()), op(api.OThis, 1), op(api.OArg, 2)}[c.Intn(4)%3:]
	for range c.Intn(12) {
		l = append(l, c.op(functions))
	}
	return l
}

// adds is how functions come into a heap: those of the package, or those of the second reading.
type adds func(h *heap.Heap, proto api.Value, body []api.Op, ctor bool) (int, error)

// The objects that build makes: two ordinary ones, a native function, and the functions from 4 to 7.
const (
	looker = 3
	first  = 4
	last   = 7
)

// build is a heap with functions that know one another, and properties. What is made up hangs on the seed alone.
func build(t *testing.T, seed int64, depth int, add adds, look func()) (*heap.Heap, *chance) {
	t.Helper()
	c := &chance{rand.New(rand.NewSource(seed)), looker}
	h := newHeap(t, 14, 1<<20, depth)
	made(t, h, null())
	made(t, h, ref(1))
	addNative(t, h, func(h *heap.Heap, this api.Value, args []api.Value) (api.Value, error) {
		look()
		return this, nil
	})
	functions := []int{looker}
	for range last - first + 1 {
		f, err := add(h, pick(c, null(), c.ref()), c.body(functions), c.Intn(2) == 0)
		if err != nil {
			t.Fatal(err)
		}
		functions = append(functions, f)
		c.objects = h.Len()
	}
	for range 8 {
		h.DefineOwnProperty(1+c.Intn(c.objects), c.key(), c.desc(functions))
	}
	return h, c
}

func (c *chance) function() int { return first + c.Intn(last-first+1) }

// do does one thing with a heap, made up at random.
func do(h *heap.Heap, c *chance) (api.Value, error) {
	o, k, v, w := 1+c.Intn(c.objects), c.key(), c.value(), c.value()
	args := []api.Value{c.value(), c.value()}[:c.Intn(3)]
	target := 1 + c.Intn(c.objects)
	answer := func(ok bool, err error) (api.Value, error) {
		if !ok || err != nil {
			return api.Value{}, err
		}
		return yes(), nil
	}
	switch c.Intn(8) {
	case 0, 1, 2:
		return h.Call(c.function(), v, args)
	case 3:
		n, err := h.Construct(c.function(), args, pick(c, target, c.function()))
		return api.Value{Id: n}, err
	case 4, 5:
		return h.Get(o, k, v)
	case 6:
		return answer(h.Set(o, k, w, pick(c, v, ref(o))))
	}
	return answer(h.DefineOwnProperty(o, k, c.desc([]int{looker, first, 5, last})))
}

// 11.3, 11.4
func TestTwoReadings(t *testing.T) {
	t.Parallel()
	var answers, throws, stops int
	for seed := range int64(6000) {
		depth := pick(&chance{Rand: rand.New(rand.NewSource(seed))}, 2, 4, 8, 20)
		one, c := build(t, seed, depth, call.New, func() {})
		two, d := build(t, seed, depth, addTwin, func() {})
		for n := range 12 {
			fuel := c.Intn(150)
			d.Intn(150)
			one.Refuel(fuel)
			two.Refuel(fuel)
			v, err := do(one, c)
			w, wrong := do(two, d)
			if v != w || !sameError(err, wrong) || one.Fuel() != two.Fuel() {
				t.Fatalf("seed %d, act %d: %v, %v with %d left, want %v, %v with %d", seed, n, v, err, one.Fuel(), w, wrong, two.Fuel())
			}
			if !sameShapes(one.Shapes(), two.Shapes()) {
				t.Fatalf("seed %d, act %d: %v, want %v", seed, n, one.Shapes(), two.Shapes())
			}
			switch err.(type) {
			case nil:
				answers++
			case *api.Thrown:
				throws++
			default:
				stops++
			}
		}
	}
	if min(answers, throws, stops) < 5000 {
		t.Errorf("%d answers, %d throws, %d stops", answers, throws, stops)
	}
}

// 11.5: with more fuel nothing is otherwise; with less it stops, having spent all.
func TestMoreFuel(t *testing.T) {
	t.Parallel()
	for seed := range int64(400) {
		play := func(fuel int) (api.Value, error, int, []api.Shape) {
			h, c := build(t, seed, 8, call.New, func() {})
			h.Refuel(fuel)
			v, err := do(h, c)
			return v, err, fuel - h.Fuel(), h.Shapes()
		}
		v, err, spent, shapes := play(1 << 20)
		for fuel := range min(spent+5, 200) {
			w, wrong, less, after := play(fuel)
			if fuel < spent && (w != (api.Value{}) || wrong != api.ErrFuel || less != fuel) {
				t.Fatalf("11.5: seed %d, fuel %d of %d: %v, %v, %d spent", seed, fuel, spent, w, wrong, less)
			}
			if fuel >= spent && (w != v || !sameError(wrong, err) || less != spent || !sameShapes(after, shapes)) {
				t.Fatalf("11.5: seed %d, fuel %d of %d: %v, %v, %d spent; want %v, %v", seed, fuel, spent, w, wrong, less, v, err)
			}
		}
	}
}

// watch is the moments of a heap.
type watch struct {
	t       *testing.T
	h       *heap.Heap
	moments [][]api.Shape
}

// look holds this moment against what always holds, and against all earlier ones.
func (w *watch) look() {
	now := w.h.Shapes()
	if at := ordinary.Sound(now); at != -1 {
		w.t.Fatalf("11.5: %d is not sound: %v", at+1, now)
	}
	for _, s := range now {
		for _, p := range s.Props {
			for _, f := range []api.Value{p.Desc.Get, p.Desc.Set} {
				if f.Kind == api.KRef && !w.h.Callable(f) {
					w.t.Fatalf("11.5: %v cannot be called: %v", f, s)
				}
			}
		}
	}
	for _, before := range w.moments {
		if o, rule := invariant.Broken(before, now); rule != 0 {
			w.t.Fatalf("11.5: %d breaks the rule %d: %v became %v", o, rule, before, now)
		}
		w.keeps(before, now)
	}
	w.moments = append(w.moments, now)
}

// keeps holds each property against what it may become (chapter 5).
func (w *watch) keeps(before, now []api.Shape) {
	for i, s := range before {
		for _, p := range s.Props {
			var d api.Desc
			for _, q := range now[i].Props {
				if q.Key == p.Key {
					d = q.Desc
				}
			}
			if ok, e := desc.Keeps(p.Desc, d); !ok || e != api.OK {
				w.t.Fatalf("11.5: %d: %v became %v", i+1, p, d)
			}
		}
	}
}

// watched is a new function in which a call of the one that looks stands behind each operation.
func watched(h *heap.Heap, proto api.Value, body []api.Op, ctor bool) (int, error) {
	var l []api.Op
	for _, o := range body {
		if o.Code == api.OSkip {
			o.B *= 3
		}
		l = append(l, o, constant(14, ref(looker)), op(api.OCall, 14, 14))
	}
	return call.New(h, proto, l, ctor)
}

// 11.5: what never changes, behind each act, and within each function that is called.
func TestWhatFollows(t *testing.T) {
	t.Parallel()
	within := 0
	for seed := range int64(1500) {
		w := &watch{t: t}
		h, c := build(t, seed, 12, watched, func() { within++; w.look() })
		w.h = h
		for range 8 {
			h.Refuel(200)
			do(h, c)
			w.look()
		}
	}
	if within < 15000 {
		t.Errorf("functions looked no more than %d times", within)
	}
}
