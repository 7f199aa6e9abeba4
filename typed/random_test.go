package typed_test

// Typed arrays and acts at random: both readings answer the same, cost the same, and leave the same (15.1 to 15.7).

import (
	"fmt"
	"math"
	"math/rand"
	"slices"
	"testing"

	"cameo/api"
	"cameo/call"
	"cameo/heap"
)

// chance makes things up at random, over a heap of so many objects.
type chance struct {
	*rand.Rand
	objects int
}

func pick[T any](c *chance, l ...T) T { return l[c.Intn(len(l))] }

func (c *chance) ref() api.Value { return ref(1 + c.Intn(c.objects)) }

func (c *chance) small() float64 { return float64(c.Intn(7)) }

func (c *chance) value() api.Value {
	switch c.Intn(5) {
	case 0:
		return c.ref()
	case 1, 2:
		return num(c.small())
	case 3:
		return num(odd(c.Rand))
	}
	return pick(c, undefined(), null(), yes(), no(), num(below0), num(nan), num(-1), num(2.5), num(300), num(1e39), text(""), text("0"), text("3"), text(" 0x12 "), text("a"), symbol(3))
}

func (c *chance) values() []api.Value {
	var l []api.Value
	for range c.Intn(4) {
		l = append(l, c.value())
	}
	return l
}

func (c *chance) key() api.Key {
	if c.Intn(3) > 0 {
		return at(c.Intn(6))
	}
	return pick(c, str("-0"), str("-1"), str("1.5"), str("NaN"), str("Infinity"), str("1e+21"), str("9"), str("4294967295"), str("00"), str("1.0"), str("a"), str("length"), str("valueOf"), sym(3))
}

// bytes is some bytes, of which floats are made that are not numbers, too.
func (c *chance) bytes(n int) []byte {
	l := make([]byte, n)
	c.Read(l)
	if c.Intn(3) == 0 {
		for i := range l {
			l[i] = pick(c, 0xFF, 0x7F, 0xF0, 0x80, 0, l[i])
		}
	}
	return l
}

func (c *chance) kind() int { return 1 + c.Intn(9) }

// desc is a descriptor, whose getter and setter are among some functions.
func (c *chance) desc(functions []int) api.Desc {
	tri := func() api.Tri { return api.Tri(c.Intn(3)) }
	d := api.Desc{Enumerable: pick(c, api.Absent, api.Absent, api.Yes, tri()), Configurable: pick(c, api.Absent, api.Absent, api.Yes, tri())}
	if len(functions) > 0 && c.Intn(6) == 0 {
		f := func() api.Value {
			return pick(c, api.Value{}, undefined(), ref(pick(c, functions...)), ref(pick(c, functions...)))
		}
		d.Get, d.Set = f(), f()
		return d
	}
	d.Writable = pick(c, api.Yes, api.Absent, api.Absent, api.Absent, tri())
	if c.Intn(4) > 0 {
		d.Value = c.value()
	}
	return d
}

// The objects that build makes: an ordinary one, two native functions, two buffers, three typed arrays, three functions, two children of typed arrays, and one that is asked by a function.
const (
	looker  = 2
	meddler = 3
	bufferA = 4
	bufferB = 5
	typedA  = 6
	bodyA   = 9
	last    = 14
	mostOf  = 18
)

// op is an operation that does something with an object.
func (c *chance) op(functions []int) api.Op {
	o := api.Op{Code: pick(c, api.OGet, api.OGet, api.OSet, api.OSet, api.OSet, api.OGetBy, api.OSetBy, api.ODefine, api.ODefine, api.ODelete, api.OHas, api.OOwn, api.OPrevent, api.OCall, api.OReproto, api.OConst, api.OThis, api.OArg),
		To: pick(c, 0, 1, 2), A: c.Intn(5), B: c.Intn(5), C: c.Intn(5), Key: c.key(), Val: c.value(), Catch: c.Intn(2) == 0}
	if o.Code == api.OPrevent && c.Intn(3) > 0 {
		o.Code = api.OCall
	}
	if o.Code == api.ODefine {
		o.Desc = c.desc(functions)
		o.Flag = o.Desc.Get.Kind == api.KNone && o.Desc.Set.Kind == api.KNone && c.Intn(2) == 0
	}
	return o
}

// body has in its registers: one object of all, the receiver, an argument, a typed array, and a number; 5 is one that looks, 7 one that meddles.
func (c *chance) body(functions []int) []api.Op {
	l := []api.Op{{Code: api.OConst, To: 0, Val: c.ref()}, {Code: api.OThis, To: 1}, {Code: api.OArg, To: 2}, {Code: api.OConst, To: 3, Val: ref(typedA + c.Intn(3))}, {Code: api.OConst, To: 4, Val: num(c.small())}, {Code: api.OConst, To: 5, Val: ref(looker)}, {Code: api.OConst, To: 7, Val: ref(meddler)}}
	for range c.Intn(6) {
		l = append(l, c.op(functions), api.Op{Code: api.OCall, To: 6, A: 5, B: c.Intn(4), C: 2})
	}
	if c.Intn(4) == 0 {
		l = append(l, api.Op{Code: api.OCall, To: 6, A: 7, B: 1, C: 2})
	}
	return append(l, api.Op{Code: api.OReturn, A: pick(c, 0, 1, 2, 4, 4, 4)})
}

// view makes a typed array at random, over one of the buffers; most of them lie in it.
func (c *chance) view(h *heap.Heap, by reading, proto api.Value, b int) (int, error) {
	kind := c.kind()
	l, _ := by.bytes(h, b)
	most := len(l) / sizeOf(kind)
	first := c.Intn(most + 1)
	long := c.Intn(most - first + 1)
	if c.Intn(3) > 0 {
		first, long = 0, most
	}
	return by.view(h, proto, b, kind, first*sizeOf(kind), long)
}

// build is a heap by one of the readings. What is made up hangs on the seed alone.
func build(t *testing.T, seed int64, depth int, by reading, look func()) (*heap.Heap, *chance) {
	t.Helper()
	c := &chance{rand.New(rand.NewSource(seed)), 3}
	h := newHeap(t, mostOf, 1<<20, depth)
	add := func(n int, err error) {
		t.Helper()
		if err != nil {
			t.Fatal(err)
		}
		c.objects = h.Len()
	}
	made(t, h, null())
	addNative(t, h, func(h *heap.Heap, this api.Value, given []api.Value) (api.Value, error) {
		look()
		return this, nil
	})
	times, often := 0, 1+c.Intn(4)
	addNative(t, h, func(h *heap.Heap, this api.Value, given []api.Value) (api.Value, error) {
		times++
		if times%often == 0 {
			by.detach(h, bufferA+times/often%2)
		} else {
			by.lay(h, bufferA+times%2, 0, []byte{byte(times), 0xF1, byte(7 * times)})
		}
		look()
		return num(float64(times)), nil
	})
	for range 2 {
		n := pick(c, 8, 16, 24, c.Intn(20))
		add(by.buffer(h, pick(c, null(), ref(1)), n))
		by.lay(h, h.Len(), 0, c.bytes(n))
	}
	for _, b := range []int{bufferA, bufferA, bufferB} {
		add(c.view(h, by, pick(c, null(), ref(1), ref(h.Len())), b))
	}
	functions := []int{looker, meddler}
	for range 3 {
		f, err := call.New(h, null(), c.body(functions), false)
		add(f, err)
		functions = append(functions, f)
	}
	for range 2 {
		add(h.Make(ref(typedA + c.Intn(3))))
	}
	add(h.Make(null()))
	for _, name := range []string{"valueOf", "toString"} {
		h.DefineOwnProperty(last, str(name), data(ref(pick(c, meddler, meddler, bodyA, bodyA+1, bodyA+2)), "wc"))
	}
	for range c.Intn(5) {
		h.DefineOwnProperty(1+c.Intn(c.objects), c.key(), c.desc(functions))
	}
	return h, c
}

// object is one of the heap, of which typed arrays are drawn most.
func (c *chance) object() int { return pick(c, 6, 6, 7, 7, 8, 8, 12, 13, 1+c.Intn(last)) }

// answer is what an act came to, told as a value.
func answer(ok bool, err error) (api.Value, error) {
	if err != nil {
		return api.Value{}, err
	}
	return api.Value{Kind: api.KBool, Bool: ok}, nil
}

func told(x any, err error) (api.Value, error) {
	if err != nil {
		return api.Value{}, err
	}
	return api.Value{Str: fmt.Sprint(x)}, nil
}

func wrong(x any, e api.Errno) (api.Value, error) { return told(x, errno(e)) }

// do does one thing with a heap, made up at random. What is made anew is not asked afterwards, but may be somebody's value.
func do(h *heap.Heap, c *chance, by reading) (api.Value, error) {
	c.objects = min(c.objects, h.Len())
	o, k, v, w := c.object(), c.key(), pick(c, c.value(), c.value(), ref(last)), pick(c, c.value(), ref(c.object()))
	l, d, proto := c.values(), c.desc([]int{looker, meddler, bodyA, bodyA + 1, bodyA + 2}), pick(c, null(), c.ref())
	b, place, kind, little := pick(c, bufferA, bufferB, bufferA, bufferB, o), pick(c, c.Intn(12), c.Intn(30)-2, math.MaxInt-c.Intn(9)), pick(c, c.kind(), c.kind(), c.kind(), c.Intn(12)-1), c.Intn(2) == 0
	if d.Value.Kind != api.KNone {
		d.Value = pick(c, d.Value, d.Value, v)
	}
	switch c.Intn(36) {
	case 0, 1, 2:
		return h.Get(o, k, w)
	case 3, 4, 5, 6, 7, 8:
		return answer(h.Set(o, k, v, pick(c, w, ref(o), ref(o))))
	case 9, 10, 11, 12, 13:
		return answer(h.DefineOwnProperty(o, k, d))
	case 14, 15:
		return answer(h.Delete(o, k))
	case 16, 17:
		return answer(h.HasProperty(o, k))
	case 18, 19:
		d, _, err := h.GetOwnProperty(o, k)
		return told(d, err)
	case 20:
		return told(h.OwnPropertyKeys(o))
	case 21:
		return answer(h.SetPrototypeOf(o, proto))
	case 22:
		if c.Intn(4) == 0 {
			return answer(h.PreventExtensions(o))
		}
		return answer(h.IsExtensible(o))
	case 23:
		return told(by.buffer(h, proto, pick(c, c.Intn(9), c.Intn(9), -1, 65537)))
	case 24:
		return told(by.view(h, proto, b, kind, pick(c, place, 8*c.Intn(3)), pick(c, c.Intn(4), place)))
	case 25:
		return wrong(by.bytes(h, b))
	case 26:
		return wrong(by.parts(h, pick(c, o, place)))
	case 27:
		return told(nil, errno(by.lay(h, b, place, c.bytes(c.Intn(9)))))
	case 28:
		if c.Intn(4) == 0 {
			return told(nil, errno(by.detach(h, b)))
		}
		return wrong(by.bytes(h, b))
	case 29, 30:
		return told(by.read(h, b, place, kind, little))
	case 31, 32, 33:
		return told(nil, by.write(h, b, place, kind, little, v))
	}
	return h.Call(bodyA+c.Intn(3), w, l)
}

// sameBytes tells whether two heaps tell the same of their buffers and typed arrays, each by its own reading.
func sameBytes(one, two *heap.Heap, first, second reading) bool {
	for o := 1; o <= one.Len(); o++ {
		a, e := first.bytes(one, o)
		b, f := second.bytes(two, o)
		p, g := first.parts(one, o)
		q, i := second.parts(two, o)
		_, err := first.read(one, o, 1<<20, api.TInt8, true)
		_, wrong := second.read(two, o, 1<<20, api.TInt8, true)
		if !slices.Equal(a, b) || e != f || p != q || g != i || !sameError(err, wrong) {
			return false
		}
	}
	return true
}

// 15.1 to 15.7
func TestTwoReadings(t *testing.T) {
	t.Parallel()
	var answers, stops, thrown, given, detached int
	for seed := range int64(8000) {
		depth := pick(&chance{Rand: rand.New(rand.NewSource(seed))}, 1, 2, 3, 5, 20)
		first, second := byPackage(), byTwins()
		one, c := build(t, seed, depth, first, func() {})
		two, d := build(t, seed, depth, second, func() {})
		for n := range 15 {
			fuel := pick(c, c.Intn(5), c.Intn(150))
			pick(d, d.Intn(5), d.Intn(150))
			one.Refuel(fuel)
			two.Refuel(fuel)
			before := now(one)
			v, err := do(one, c, first)
			w, wrong := do(two, d, second)
			if !sameValue(v, w) || !sameError(err, wrong) || one.Fuel() != two.Fuel() {
				t.Fatalf("seed %d, act %d: %v, %v with %d left, want %v, %v with %d", seed, n, v, err, one.Fuel(), w, wrong, two.Fuel())
			}
			if got, want := one.Shapes(), two.Shapes(); !sameShapes(got, want) {
				t.Fatalf("seed %d, act %d: %v, want %v", seed, n, got, want)
			}
			if !sameBytes(one, two, first, second) {
				t.Fatalf("seed %d, act %d: the bytes are %v", seed, n, now(one))
			}
			for b := bufferA; b <= bufferB; b++ {
				now, _ := first.bytes(one, b)
				if was := before.bytes[b-1]; len(was) > len(now) {
					detached++
				} else if !slices.Equal(was, now) {
					given++
				}
			}
			if err == nil {
				answers++
			} else if _, ok := err.(api.Errno); ok {
				stops++
			} else {
				thrown++
			}
		}
	}
	if min(answers, stops, thrown, given, detached) < 1000 {
		t.Errorf("%d answers, %d stops, %d thrown, %d given, %d detached", answers, stops, thrown, given, detached)
	}
}

// W7: with more fuel nothing is otherwise; with less it stops, having spent all.
func TestMoreFuel(t *testing.T) {
	t.Parallel()
	by := byPackage()
	for seed := range int64(800) {
		play := func(fuel int) (api.Value, error, int, moment) {
			h, c := build(t, seed, 8, by, func() {})
			h.Refuel(fuel)
			v, err := do(h, c, by)
			return v, err, fuel - h.Fuel(), now(h)
		}
		v, err, spent, left := play(1 << 20)
		for fuel := range min(spent+4, 120) {
			w, wrong, less, after := play(fuel)
			if fuel < spent && (w != (api.Value{}) || wrong != api.ErrFuel || less != fuel) {
				t.Fatalf("W7: seed %d, fuel %d of %d: %v, %v, %d spent", seed, fuel, spent, w, wrong, less)
			}
			if fuel >= spent && (!sameValue(w, v) || !sameError(wrong, err) || less != spent || !sameMoment(after, left)) {
				t.Fatalf("W7: seed %d, fuel %d of %d: %v, %v, %d spent; want %v, %v", seed, fuel, spent, w, wrong, less, v, err)
			}
		}
	}
}
