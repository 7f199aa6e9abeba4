package strobj_test

// String objects and acts at random: both readings answer the same, cost the same, and leave the same (16.1 to 16.4).

import (
	"fmt"
	"math/rand"
	"testing"

	"cameo/api"
	"cameo/array"
	"cameo/call"
	"cameo/heap"
)

// chance makes things up at random, over a heap of so many objects.
type chance struct {
	*rand.Rand
	objects int
}

func pick[T any](c *chance, l ...T) T { return l[c.Intn(len(l))] }

func (c *chance) ref() api.Value { return ref(1 + c.Intn(c.objects)) }

// unit is a code unit, of which there are few, so that two are often the same.
func (c *chance) unit() uint16 {
	return pick[uint16](c, 'a', 'a', 'b', '0', 0xE9, 0x20AC, 0xD83D, 0xD83D, 0xDE00, 0xDE00)
}

// word is a string of so many units at most.
func (c *chance) word(most int) string {
	l := make([]uint16, c.Intn(most+1))
	for i := range l {
		l[i] = c.unit()
	}
	return twinString(l)
}

func (c *chance) value() api.Value {
	switch c.Intn(4) {
	case 0:
		return c.ref()
	case 1, 2:
		return text(twinUnit(c.unit()))
	}
	return pick(c, undefined(), null(), yes(), no(), num(below0), num(nan), num(float64(c.Intn(6))), text(""), text("ab"), text("\U0001f600"), symbol(3))
}

func (c *chance) values() []api.Value {
	var l []api.Value
	for range c.Intn(4) {
		l = append(l, c.value())
	}
	return l
}

func (c *chance) key() api.Key {
	if c.Intn(3) > 0 {
		return at(c.Intn(7))
	}
	return pick(c, str("length"), str("length"), str("-0"), str("1.5"), str("01"), str("9"), str("4294967294"), str("4294967295"), str("4294967296"), str("a"), str("valueOf"), sym(3), sym(4))
}

// desc is a descriptor, whose getter and setter are among some functions.
func (c *chance) desc(functions []int) api.Desc {
	tri := func() api.Tri { return api.Tri(c.Intn(3)) }
	d := api.Desc{Enumerable: pick(c, api.Absent, api.Absent, api.Yes, tri()), Configurable: pick(c, api.Absent, api.Absent, api.No, tri())}
	if len(functions) > 0 && c.Intn(6) == 0 {
		f := func() api.Value {
			return pick(c, api.Value{}, undefined(), ref(pick(c, functions...)), ref(pick(c, functions...)))
		}
		d.Get, d.Set = f(), f()
		return d
	}
	d.Writable = pick(c, api.No, api.Absent, api.Absent, api.Absent, tri())
	if c.Intn(4) > 0 {
		d.Value = c.value()
	}
	return d
}

// The objects that build makes: an ordinary one, a native function, three String objects, three functions, two children of String objects, and an array that is one, too.
const (
	looker  = 2
	stringA = 3
	bodyA   = 6
	last    = 11
	mostOf  = 15
)

// op is an operation that does something with an object.
func (c *chance) op(functions []int) api.Op {
	o := api.Op{Code: pick(c, api.OGet, api.OGet, api.OSet, api.OSet, api.OSet, api.OGetBy, api.OSetBy, api.ODefine, api.ODefine, api.ODefine, api.ODelete, api.OHas, api.OOwn, api.OPrevent, api.OCall, api.OReproto, api.OConst, api.OThis, api.OArg),
		To: pick(c, 0, 1, 2), A: c.Intn(5), B: c.Intn(5), C: c.Intn(5), Key: c.key(), Val: c.value(), Catch: c.Intn(2) == 0}
	if o.Code == api.OPrevent && c.Intn(3) > 0 {
		o.Code = api.OCall
	}
	if o.Code == api.ODefine {
		o.Desc = c.desc(functions)
		o.Flag = o.Desc.Get.Kind == api.KNone && o.Desc.Set.Kind == api.KNone && c.Intn(2) == 0
	}
	return o
}

// body has in its registers: one object of all, the receiver, an argument, a String object, and a number; 5 is one that looks.
func (c *chance) body(functions []int) []api.Op {
	l := []api.Op{{Code: api.OConst, To: 0, Val: c.ref()}, {Code: api.OThis, To: 1}, {Code: api.OArg, To: 2}, {Code: api.OConst, To: 3, Val: ref(stringA + c.Intn(3))}, {Code: api.OConst, To: 4, Val: num(float64(c.Intn(5)))}, {Code: api.OConst, To: 5, Val: ref(looker)}}
	for range c.Intn(6) {
		l = append(l, c.op(functions), api.Op{Code: api.OCall, To: 6, A: 5, B: c.Intn(4), C: 2})
	}
	return append(l, api.Op{Code: api.OReturn, A: pick(c, 0, 1, 2, 4, 4)})
}

// build is a heap by one of the readings. What is made up hangs on the seed alone.
func build(t *testing.T, seed int64, depth int, by reading, look func()) (*heap.Heap, *chance) {
	t.Helper()
	c := &chance{rand.New(rand.NewSource(seed)), 2}
	h := newHeap(t, mostOf, 1<<20, depth)
	made(t, h, null())
	addNative(t, h, func(h *heap.Heap, this api.Value, given []api.Value) (api.Value, error) {
		look()
		return this, nil
	})
	add := func(n int, err error) {
		t.Helper()
		if err != nil {
			t.Fatal(err)
		}
		c.objects = h.Len()
	}
	for i := range 3 {
		add(by.make(h, pick(c, null(), ref(1), ref(looker+c.Intn(i+1))), c.word(5)))
	}
	functions := []int{looker}
	for i := range 3 {
		add(call.New(h, null(), c.body(functions), false))
		functions = append(functions, bodyA+i)
	}
	for range 2 {
		add(h.Make(ref(stringA + c.Intn(3))))
	}
	add(array.Of(h, pick(c, null(), ref(stringA+c.Intn(3))), c.values()))
	for range c.Intn(6) {
		h.DefineOwnProperty(1+c.Intn(c.objects), c.key(), c.desc(functions))
	}
	return h, c
}

// object is one of the heap, of which String objects are drawn most.
func (c *chance) object() int { return pick(c, 3, 3, 4, 4, 5, 5, 9, 10, last, 1+c.Intn(last)) }

// answer is what an act came to, told as a value.
func answer(ok bool, err error) (api.Value, error) {
	if err != nil {
		return api.Value{}, err
	}
	return api.Value{Kind: api.KBool, Bool: ok}, nil
}

func told(x any, err error) (api.Value, error) {
	if err != nil {
		return api.Value{}, err
	}
	return api.Value{Str: fmt.Sprint(x)}, nil
}

func wrong(x any, e api.Errno) (api.Value, error) {
	if e != api.OK {
		return told(x, e)
	}
	return told(x, nil)
}

// do does one thing with a heap, made up at random. What is made anew is not asked afterwards, but may be somebody's value.
func do(h *heap.Heap, c *chance, by reading) (api.Value, error) {
	c.objects = min(c.objects, h.Len())
	o, k, v, w := c.object(), c.key(), c.value(), pick(c, c.value(), ref(c.object()))
	l, d, proto := c.values(), c.desc([]int{looker, bodyA, bodyA + 1, bodyA + 2}), pick(c, null(), c.ref())
	switch c.Intn(30) {
	case 0, 1, 2:
		return h.Get(o, k, w)
	case 3, 4, 5, 6, 7:
		return answer(h.Set(o, k, v, pick(c, w, ref(o), ref(o))))
	case 8, 9, 10, 11, 12, 13:
		return answer(h.DefineOwnProperty(o, k, d))
	case 14, 15:
		return answer(h.Delete(o, k))
	case 16, 17:
		return answer(h.HasProperty(o, k))
	case 18, 19:
		d, ok, err := h.GetOwnProperty(o, k)
		return told([]any{d, ok}, err)
	case 20, 21:
		return told(h.OwnPropertyKeys(o))
	case 22:
		return answer(h.SetPrototypeOf(o, proto))
	case 23:
		if c.Intn(3) == 0 {
			return answer(h.PreventExtensions(o))
		}
		return answer(h.IsExtensible(o))
	case 24:
		return told(by.make(h, pick(c, proto, proto, v), pick(c, c.word(9), c.word(9), pick(c, noStrings()...))))
	case 25:
		return wrong(by.data(h, pick(c, o, o, c.Intn(20)-2)))
	}
	return h.Call(bodyA+c.Intn(3), w, l)
}

// sameTold tells whether two heaps tell the same shapes and strings, each by its own reading.
func sameTold(one, two *heap.Heap, first, second reading) bool {
	if !sameShapes(one.Shapes(), two.Shapes()) {
		return false
	}
	for o := 1; o <= one.Len(); o++ {
		a, e := first.data(one, o)
		b, f := second.data(two, o)
		if a != b || e != f {
			return false
		}
	}
	return true
}

// 16.1 to 16.4
func TestTwoReadings(t *testing.T) {
	t.Parallel()
	var answers, stops, yes, no, laid int
	for seed := range int64(8000) {
		depth := pick(&chance{Rand: rand.New(rand.NewSource(seed))}, 1, 2, 3, 5, 20)
		first, second := byPackage(), byTwins()
		one, c := build(t, seed, depth, first, func() {})
		two, d := build(t, seed, depth, second, func() {})
		for n := range 15 {
			fuel := pick(c, c.Intn(5), c.Intn(150))
			pick(d, d.Intn(5), d.Intn(150))
			one.Refuel(fuel)
			two.Refuel(fuel)
			before := one.Shapes()
			v, err := do(one, c, first)
			w, wrong := do(two, d, second)
			if !sameValue(v, w) || !sameError(err, wrong) || one.Fuel() != two.Fuel() {
				t.Fatalf("seed %d, act %d: %v, %v with %d left, want %v, %v with %d", seed, n, v, err, one.Fuel(), w, wrong, two.Fuel())
			}
			if !sameTold(one, two, first, second) {
				t.Fatalf("seed %d, act %d: %v, want %v", seed, n, now(one), two.Shapes())
			}
			for o := stringA; o < stringA+3; o++ {
				if s, _ := one.Shape(o); len(s.Props) > len(before[o-1].Props) {
					laid++
				}
			}
			switch {
			case err != nil:
				stops++
			case v.Kind == api.KBool && v.Bool:
				yes++
			case v.Kind == api.KBool:
				no++
			default:
				answers++
			}
		}
	}
	if min(answers, stops, yes, no, laid) < 3000 {
		t.Errorf("%d answers, %d stops or throws, %d true, %d false, %d laid", answers, stops, yes, no, laid)
	}
}

// W7: with more fuel nothing is otherwise; with less it stops, having spent all.
func TestMoreFuel(t *testing.T) {
	t.Parallel()
	by := byPackage()
	for seed := range int64(800) {
		play := func(fuel int) (api.Value, error, int, moment) {
			h, c := build(t, seed, 8, by, func() {})
			h.Refuel(fuel)
			v, err := do(h, c, by)
			return v, err, fuel - h.Fuel(), now(h)
		}
		v, err, spent, left := play(1 << 20)
		for fuel := range min(spent+4, 120) {
			w, wrong, less, after := play(fuel)
			if fuel < spent && (w != (api.Value{}) || wrong != api.ErrFuel || less != fuel) {
				t.Fatalf("W7: seed %d, fuel %d of %d: %v, %v, %d spent", seed, fuel, spent, w, wrong, less)
			}
			if fuel >= spent && (!sameValue(w, v) || !sameError(wrong, err) || less != spent || !sameMoment(after, left)) {
				t.Fatalf("W7: seed %d, fuel %d of %d: %v, %v, %d spent; want %v, %v", seed, fuel, spent, w, wrong, less, v, err)
			}
		}
	}
}
