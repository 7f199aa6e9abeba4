package array_test

// Arrays and acts at random: both readings answer the same, cost the same, and leave the same (14.1 to 14.5).

import (
	"fmt"
	"math/rand"
	"testing"

	"cameo/api"
	"cameo/heap"
)

// chance makes things up at random, over a heap of so many objects.
type chance struct {
	*rand.Rand
	objects int
}

func pick[T any](c *chance, l ...T) T { return l[c.Intn(len(l))] }

func (c *chance) ref() api.Value { return ref(1 + c.Intn(c.objects)) }

func (c *chance) small() float64 { return float64(c.Intn(7)) }

func (c *chance) value() api.Value {
	switch c.Intn(5) {
	case 0:
		return c.ref()
	case 1, 2:
		return num(c.small())
	}
	return pick(c, undefined(), null(), yes(), no(), num(below0), num(nan), num(-1), num(2.5), num(4294967295), num(4294967294), num(4294967296), num(4294967298), text(""), text("0"), text("3"), text(" 2 "), text("a"), symbol(3))
}

func (c *chance) values() []api.Value {
	var l []api.Value
	for range c.Intn(6) {
		l = append(l, c.value())
	}
	return l
}

func (c *chance) length() int64 {
	return pick(c, int64(c.Intn(6)), int64(c.Intn(6)), 4294967294, 4294967295)
}

func (c *chance) key() api.Key {
	if c.Intn(2) == 0 {
		return at(c.Intn(7))
	}
	return pick(c, str("length"), str("length"), str("length"), str("length"), str("length"), str("4294967294"), str("4294967293"), str("4294967295"), str("00"), str("a"), str("valueOf"), sym(3))
}

// desc is a descriptor, whose getter and setter are among some functions.
func (c *chance) desc(functions []int) api.Desc {
	tri := func() api.Tri { return api.Tri(c.Intn(3)) }
	d := api.Desc{Enumerable: pick(c, api.Absent, api.Absent, tri()), Configurable: pick(c, api.Absent, api.Absent, tri(), tri())}
	if len(functions) > 0 && c.Intn(6) == 0 {
		f := func() api.Value {
			return pick(c, api.Value{}, undefined(), ref(pick(c, functions...)), ref(pick(c, functions...)))
		}
		d.Get, d.Set = f(), f()
		return d
	}
	d.Writable = pick(c, api.Yes, api.Absent, api.Absent, api.Absent, tri())
	if c.Intn(4) > 0 {
		d.Value = c.value()
	}
	return d
}

// op is an operation that does something with an object.
func (c *chance) op(functions []int) api.Op {
	o := api.Op{Code: pick(c, api.OGet, api.OSet, api.OSet, api.OSet, api.OGetBy, api.OSetBy, api.ODefine, api.ODefine, api.ODefine, api.ODelete, api.OHas, api.OOwn, api.OPrevent, api.OCall, api.OReproto, api.OConst, api.OThis, api.OArg),
		To: pick(c, 0, 1, 2), A: c.Intn(5), B: c.Intn(5), C: c.Intn(5), Key: c.key(), Val: c.value(), Catch: c.Intn(2) == 0}
	if o.Code == api.OPrevent && c.Intn(3) > 0 {
		o.Code = api.OCall
	}
	if o.Code == api.ODefine {
		o.Desc = c.desc(functions)
		o.Flag = o.Desc.Get.Kind == api.KNone && o.Desc.Set.Kind == api.KNone && c.Intn(2) == 0
	}
	return o
}

// body has in its registers: one object of all, the receiver, an argument, an array, and a number; 5 is one that looks.
func (c *chance) body(functions []int) []api.Op {
	l := []api.Op{{Code: api.OConst, To: 0, Val: c.ref()}, {Code: api.OThis, To: 1}, {Code: api.OArg, To: 2}, {Code: api.OConst, To: 3, Val: ref(3 + c.Intn(3))}, {Code: api.OConst, To: 4, Val: num(c.small())}, {Code: api.OConst, To: 5, Val: ref(looker)}}
	for range c.Intn(6) {
		l = append(l, c.op(functions), api.Op{Code: api.OCall, To: 6, A: 5, B: c.Intn(4), C: 2})
	}
	return append(l, api.Op{Code: api.OReturn, A: pick(c, 0, 1, 2, 4, 4, 4)})
}

// The objects that build makes: an ordinary one, a native function, three arrays, three functions, two children of arrays, and one that is asked by a function.
const (
	looker  = 2
	last    = 11
	mostOf  = 15
	callees = 3
)

// build is a heap by one of the readings. What is made up hangs on the seed alone.
func build(t *testing.T, seed int64, depth int, by reading, look func()) (*heap.Heap, *chance) {
	t.Helper()
	c := &chance{rand.New(rand.NewSource(seed)), 2}
	h := newHeap(t, mostOf, 1<<20, depth)
	made(t, h, null())
	addNative(t, h, func(h *heap.Heap, this api.Value, given []api.Value) (api.Value, error) {
		look()
		return this, nil
	})
	add := func(n int, err error) {
		t.Helper()
		if err != nil {
			t.Fatal(err)
		}
		c.objects = h.Len()
	}
	c.objects = 5 // which are there once something is asked
	add(by.sized(h, pick(c, null(), ref(1)), c.length()))
	add(by.of(h, pick(c, null(), ref(1), ref(3)), numbers(c.Intn(7))))
	c.objects = 4
	add(by.of(h, pick(c, null(), ref(3), ref(4)), c.values()))
	functions := []int{looker}
	for range callees {
		f := fn(t, h, c.body(functions)...)
		add(f.Id, nil)
		functions = append(functions, f.Id)
	}
	for range 2 {
		add(h.Make(ref(pick(c, 3, 4, 4, 5))))
	}
	add(h.Make(null()))
	for _, name := range []string{"valueOf", "toString"} {
		h.DefineOwnProperty(last, str(name), data(ref(pick(c, 6, 7, 8)), "wc"))
	}
	for range c.Intn(6) {
		h.DefineOwnProperty(1+c.Intn(c.objects), c.key(), c.desc(functions))
	}
	return h, c
}

// object is one of the heap, of which arrays are drawn most.
func (c *chance) object() int { return pick(c, 3, 4, 4, 5, 5, 9, 10, 1+c.Intn(last)) }

// answer is what an act came to, told as a value.
func answer(ok bool, err error) (api.Value, error) {
	if err != nil {
		return api.Value{}, err
	}
	return api.Value{Kind: api.KBool, Bool: ok}, nil
}

func told(x any, err error) (api.Value, error) {
	if err != nil {
		return api.Value{}, err
	}
	return api.Value{Str: fmt.Sprint(x)}, nil
}

func wrong(x any, e api.Errno) (api.Value, error) {
	if e != api.OK {
		return api.Value{}, e
	}
	return api.Value{Str: fmt.Sprint(x)}, nil
}

// do does one thing with a heap, made up at random. What is made anew is not asked afterwards, but may be somebody's value.
func do(h *heap.Heap, c *chance, by reading) (api.Value, error) {
	c.objects = min(c.objects, h.Len())
	o, k, v, w := c.object(), c.key(), pick(c, c.value(), ref(last)), pick(c, c.value(), ref(c.object()))
	l, d, proto, most := c.values(), c.desc([]int{looker, 6, 7, 8}), pick(c, null(), c.ref()), c.Intn(9)-1
	if d.Value.Kind != api.KNone {
		d.Value = pick(c, d.Value, d.Value, v)
	}
	switch c.Intn(31) {
	case 0, 1:
		return h.Get(o, k, w)
	case 2, 3, 4, 5:
		return answer(h.Set(o, k, v, pick(c, w, ref(o), ref(o))))
	case 6, 7, 8, 9, 10, 11:
		return answer(h.DefineOwnProperty(o, k, d))
	case 12, 13:
		return answer(h.Delete(o, k))
	case 14:
		return answer(h.HasProperty(o, k))
	case 15:
		d, _, err := h.GetOwnProperty(o, k)
		return told(d, err)
	case 16:
		return told(h.OwnPropertyKeys(o))
	case 17:
		return answer(h.SetPrototypeOf(o, proto))
	case 18:
		if c.Intn(4) == 0 {
			return answer(h.PreventExtensions(o))
		}
		return answer(h.IsExtensible(o))
	case 19:
		return told(by.sized(h, proto, pick(c, c.length(), -1, 4294967296)))
	case 20:
		return told(by.of(h, proto, l))
	case 21:
		return wrong(by.length(h, o))
	case 22:
		return wrong(by.values(h, o, most))
	case 23, 24, 25, 26:
		d := api.Desc{Value: pick(c, v, num(c.small()), num(c.small())), Writable: pick(c, api.Absent, api.Absent, api.Yes, api.No)}
		return answer(h.DefineOwnProperty(3+c.Intn(3), str("length"), d))
	case 27:
		return answer(h.Set(3+c.Intn(3), at(c.Intn(9)), v, ref(3+c.Intn(3))))
	}
	return h.Call(6+c.Intn(callees), w, l)
}

// 14.1 to 14.5
func TestTwoReadings(t *testing.T) {
	t.Parallel()
	var answers, stops, thrown, shorter, fixed int
	for seed := range int64(8000) {
		depth := pick(&chance{Rand: rand.New(rand.NewSource(seed))}, 1, 2, 3, 5, 20)
		first, second := byPackage(), byTwins()
		one, c := build(t, seed, depth, first, func() {})
		two, d := build(t, seed, depth, second, func() {})
		for n := range 15 {
			fuel := pick(c, c.Intn(5), c.Intn(150))
			pick(d, d.Intn(5), d.Intn(150))
			one.Refuel(fuel)
			two.Refuel(fuel)
			before := one.Shapes()
			v, err := do(one, c, first)
			w, wrong := do(two, d, second)
			if !sameValue(v, w) || !sameError(err, wrong) || one.Fuel() != two.Fuel() {
				t.Fatalf("seed %d, act %d: %v, %v with %d left, want %v, %v with %d", seed, n, v, err, one.Fuel(), w, wrong, two.Fuel())
			}
			got := one.Shapes()
			if want := two.Shapes(); !sameShapes(got, want) {
				t.Fatalf("seed %d, act %d: %v, want %v", seed, n, got, want)
			}
			for o := 2; o < 5; o++ {
				was, is := lying(before[o], str("length")), lying(got[o], str("length"))
				if is.Value.Num < was.Value.Num && len(got[o].Props) < len(before[o].Props) {
					shorter++
				}
				if is.Writable != was.Writable {
					fixed++
				}
			}
			if err == nil {
				answers++
			} else if _, ok := err.(api.Errno); ok {
				stops++
			} else {
				thrown++
			}
		}
	}
	if min(answers, stops, thrown, shorter, fixed) < 1500 {
		t.Errorf("%d answers, %d stops, %d thrown, %d shorter, %d read-only", answers, stops, thrown, shorter, fixed)
	}
}

// W7: with more fuel nothing is otherwise; with less it stops, having spent all.
func TestMoreFuel(t *testing.T) {
	t.Parallel()
	by := byPackage()
	for seed := range int64(800) {
		play := func(fuel int) (api.Value, error, int, []api.Shape) {
			h, c := build(t, seed, 8, by, func() {})
			h.Refuel(fuel)
			v, err := do(h, c, by)
			return v, err, fuel - h.Fuel(), h.Shapes()
		}
		v, err, spent, left := play(1 << 20)
		for fuel := range min(spent+4, 120) {
			w, wrong, less, after := play(fuel)
			if fuel < spent && (w != (api.Value{}) || wrong != api.ErrFuel || less != fuel) {
				t.Fatalf("W7: seed %d, fuel %d of %d: %v, %v, %d spent", seed, fuel, spent, w, wrong, less)
			}
			if fuel >= spent && (!sameValue(w, v) || !sameError(wrong, err) || less != spent || !sameShapes(after, left)) {
				t.Fatalf("W7: seed %d, fuel %d of %d: %v, %v, %d spent; want %v, %v", seed, fuel, spent, w, wrong, less, v, err)
			}
		}
	}
}
