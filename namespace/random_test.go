package namespace_test

// Namespaces and acts at random: both readings answer the same, cost the same, and leave the same (20.1 to 20.9).

import (
	"fmt"
	"math/rand"
	"testing"

	"cameo/api"
	"cameo/array"
	"cameo/call"
	"cameo/heap"
	"cameo/proxy"
)

// chance makes things up at random, over a heap of so many objects.
type chance struct {
	*rand.Rand
	objects int
}

func newChance(seed int64, objects int) *chance {
	return &chance{rand.New(rand.NewSource(seed)), objects}
}

func pick[T any](c *chance, l ...T) T { return l[c.Intn(len(l))] }

func (c *chance) ref() api.Value { return ref(1 + c.Intn(c.objects)) }

// words is names, of which there are few, so that two are often the same; some of them are traps.
func words() []string {
	return []string{"a", "b", "0", "1", "10", "", "length", high, low, "\U0001f600", "\uffff", "get", "has", "ownKeys", "getOwnPropertyDescriptor"}
}

func (c *chance) word() string { return pick(c, words()...) }

// names is exports: no name stands twice.
func (c *chance) names() []string {
	l := words()
	c.Shuffle(len(l), func(i, j int) { l[i], l[j] = l[j], l[i] })
	return l[:max(c.Intn(len(l)+1), c.Intn(len(l)+1))]
}

// anyNames is what somebody may take for exports.
func (c *chance) anyNames() []string {
	l := c.names()
	switch c.Intn(4) {
	case 0:
		l = append(l, c.word())
	case 1:
		l = append(l, pick(c, noStrings()...), c.word())
	}
	return l
}

// value is of few values, so that two are often the same.
func (c *chance) value() api.Value {
	if c.Intn(4) == 0 {
		return c.ref()
	}
	return pick(c, undefined(), null(), yes(), no(), num(0), num(below0), num(nan), num(1), text("a"), text("Module"), text("\U0001f600"), symbol(3))
}

// anyValue is sometimes none of the heap.
func (c *chance) anyValue() api.Value {
	if c.Intn(12) == 0 {
		return pick(c, append(broken()[:20], strangers()...)...)
	}
	return c.value()
}

func (c *chance) values() []api.Value {
	var l []api.Value
	for range c.Intn(4) {
		l = append(l, c.value())
	}
	return l
}

func (c *chance) key() api.Key {
	if c.Intn(4) > 0 {
		return str(c.word())
	}
	return pick(c, tag(), tag(), sym(3), sym(4), str("c"), str("2"), str("valueOf"))
}

// desc is a descriptor, whose getter and setter are among some functions. Most of them are what an export may be.
func (c *chance) desc(functions []int) api.Desc {
	tri := func() api.Tri { return api.Tri(c.Intn(3)) }
	d := api.Desc{Enumerable: pick(c, api.Absent, api.Absent, api.Yes, tri()), Configurable: pick(c, api.Absent, api.Absent, api.No, tri())}
	if len(functions) > 0 && c.Intn(6) == 0 {
		f := func() api.Value {
			return pick(c, api.Value{}, undefined(), ref(pick(c, functions...)), ref(pick(c, functions...)))
		}
		d.Get, d.Set = f(), f()
		return d
	}
	d.Writable = pick(c, api.Yes, api.Absent, api.Absent, tri())
	if c.Intn(2) == 0 {
		d.Value = c.value()
	}
	return d
}

// The objects that build makes: an ordinary one, two native functions, of which one looks and one binds, three namespaces, three functions, a child of a namespace, an array of one, a handler, two proxies of namespaces, of which one has a namespace as its handler, a child of a proxy.
const (
	looker = 2
	binder = 3
	spaceA = 4
	bodyA  = 7
	child  = 10
	guard  = 12
	last   = 15
	mostOf = 25
)

func functions() []int { return []int{looker, binder, bodyA, bodyA + 1, bodyA + 2} }

// op is an operation that does something with an object.
func (c *chance) op(functions []int) api.Op {
	o := api.Op{Code: pick(c, api.OGet, api.OGet, api.OGet, api.OSet, api.OSet, api.OGetBy, api.OSetBy, api.ODefine, api.ODefine, api.ODelete, api.OHas, api.OOwn, api.OExt, api.OProto, api.OPrevent, api.OCall, api.OReproto, api.OConst, api.OThis, api.OArg),
		To: pick(c, 0, 1, 2), A: c.Intn(5), B: c.Intn(5), C: c.Intn(5), Key: c.key(), Val: c.value(), Catch: c.Intn(3) > 0}
	if o.Code == api.OPrevent && c.Intn(3) > 0 {
		o.Code = api.OCall
	}
	if o.Code == api.ODefine {
		o.Desc = c.desc(functions)
		o.Flag = o.Desc.Get.Kind == api.KNone && o.Desc.Set.Kind == api.KNone && c.Intn(2) == 0
	}
	return o
}

// body has in its registers: one object of all, the receiver, an argument, a namespace, and a key; 5 is one that looks, 6 one that binds.
func (c *chance) body(functions []int) []api.Op {
	l := []api.Op{{Code: api.OConst, To: 0, Val: c.ref()}, {Code: api.OThis, To: 1}, {Code: api.OArg, To: 2}, {Code: api.OConst, To: 3, Val: ref(spaceA + c.Intn(3))}, {Code: api.OConst, To: 4, Val: text(c.word())}, {Code: api.OConst, To: 5, Val: ref(looker)}, {Code: api.OConst, To: 6, Val: ref(binder)}}
	for range 1 + c.Intn(5) {
		l = append(l, c.op(functions), api.Op{Code: api.OCall, To: 7, A: pick(c, 5, 5, 6), B: c.Intn(4), C: 2})
	}
	return append(l, api.Op{Code: api.OReturn, A: pick(c, 0, 1, 2, 4, 4)})
}

// build is a heap by one of the readings. What is made up hangs on the seed alone.
func build(t *testing.T, seed int64, depth int, by reading, look func()) (*heap.Heap, *chance) {
	t.Helper()
	c := newChance(seed, binder)
	h := newHeap(t, mostOf, 1<<20, depth)
	add := func(n int, err error) {
		t.Helper()
		made(t, n, err)
		c.objects = max(c.objects, h.Len())
	}
	object(t, h, null())
	addNative(t, h, func(this api.Value, _ []api.Value) (api.Value, error) {
		look()
		return this, nil
	})
	within := newChance(^seed, last)
	addNative(t, h, func(this api.Value, _ []api.Value) (api.Value, error) {
		by.bind(h, spaceA+within.Intn(3), within.word(), within.value())
		return this, nil
	})
	for range 3 {
		add(by.make(h, c.names()))
	}
	l := []int{looker, binder}
	for i := range 3 {
		add(call.New(h, null(), c.body(l), false))
		l = append(l, bodyA+i)
	}
	space := func() api.Value { return ref(spaceA + c.Intn(3)) }
	add(h.Make(space()))
	add(array.Of(h, space(), c.values()))
	add(h.Make(pick(c, null(), space())))
	for _, trap := range proxy.Traps() {
		if c.Intn(2) == 0 {
			d := data(ref(pick(c, functions()...)), "wec")
			heap.Ordinary{}.DefineOwnProperty(h, guard, str(trap), d)
		}
	}
	add(proxy.New(h, space(), ref(guard)))
	add(proxy.New(h, pick(c, ref(child), space()), space()))
	add(h.Make(ref(last - 2)))
	for o := spaceA; o < spaceA+3; o++ {
		for _, name := range words() {
			if c.Intn(2) == 0 {
				by.bind(h, o, name, c.value())
			}
		}
	}
	return h, c
}

// object is one of the heap, of which namespaces, and what stands in front of one, are drawn most.
func (c *chance) object() int {
	return pick(c, spaceA, spaceA+1, spaceA+2, spaceA, spaceA+1, spaceA+2, child, child+1, last-2, last-2, last-1, last, 1+c.Intn(last))
}

// act is one of the thirteen methods, made up at random.
func (c *chance) act() act {
	o, k, v := c.object(), c.key(), c.anyValue()
	w := pick(c, v, c.value(), ref(o), ref(o), ref(c.object()))
	d, l, proto := c.desc(functions()), c.values(), pick(c, null(), null(), c.ref())
	if c.Intn(5) == 0 {
		return calls(pick(c, functions()...), w, l...)
	}
	return pick(c, gets(o, k, w), gets(o, k, w), sets(o, k, v, w), sets(o, k, v, w), sets(o, k, v, w), sets(child, k, v, ref(o)),
		defines(o, k, d), defines(o, k, d), defines(o, k, d), defines(o, k, d), deletes(o, k), deletes(o, k), hasProp(o, k), hasProp(o, k), getOwn(o, k), getOwn(o, k), keysOf(o), keysOf(o),
		getProto(o), setProto(o, proto), isExt(o), prevent(o))
}

// do does one thing with a heap, made up at random. What is made anew is not asked afterwards, but may be somebody's value.
func do(h *heap.Heap, c *chance, by reading) (string, error) {
	c.objects = min(c.objects, h.Len())
	x, o := c.act(), pick(c, spaceA, spaceA+1, spaceA+2, c.Intn(30)-2)
	names, name, v := c.anyNames(), pick(c, c.word(), c.word(), "c"), c.anyValue()
	if x.name == "PreventExtensions" && c.Intn(3) > 0 {
		x.name = "IsExtensible"
	}
	switch c.Intn(12) {
	case 0:
		return said(by.make(h, names))
	case 1, 2, 3:
		return saidErrno("", by.bind(h, o, name, v))
	case 4:
		names, values, e := by.list(h, o)
		return saidErrno(fmt.Sprint(names, values), e)
	}
	return x.played(h)
}

func saidErrno(s string, e api.Errno) (string, error) {
	if e != api.OK {
		return "", e
	}
	return s, nil
}

// sameTold tells whether two heaps tell the same shapes and exports, each by its own reading.
func sameTold(one, two *heap.Heap, first, second reading) bool {
	if !sameShapes(one.Shapes(), two.Shapes()) {
		return false
	}
	for o := 1; o <= one.Len(); o++ {
		names, values, e := first.list(one, o)
		others, more, f := second.list(two, o)
		if !sameFact(fact{names, values}, fact{others, more}) || e != f {
			return false
		}
	}
	return true
}

// tally counts what acts come to.
type tally struct {
	answers, yes, no, throws, references, stops int
}

func (n *tally) count(answer string, err error) {
	switch {
	case sameError(err, referenceError()):
		n.references++
	case err == nil && answer == "true":
		n.yes++
	case err == nil && answer == "false":
		n.no++
	case err == nil:
		n.answers++
	case sameError(err, typeError()):
		n.throws++
	default:
		n.stops++
	}
}

// 20.1 to 20.9
func TestTwoReadings(t *testing.T) {
	t.Parallel()
	var n tally
	for seed := range int64(8000) {
		depth := pick(newChance(seed, 1), 1, 2, 3, 5, 20)
		first, second := byPackage(), byTwins()
		one, c := build(t, seed, depth, first, func() {})
		two, d := build(t, seed, depth, second, func() {})
		for i := range 15 {
			fuel := pick(c, c.Intn(6), c.Intn(150), 150)
			pick(d, d.Intn(6), d.Intn(150), 150)
			one.Refuel(fuel)
			two.Refuel(fuel)
			got, err := do(one, c, first)
			want, wrong := do(two, d, second)
			if got != want || !sameError(err, wrong) || one.Fuel() != two.Fuel() {
				t.Fatalf("seed %d, act %d: %s, %v with %d left, want %s, %v with %d", seed, i, got, err, one.Fuel(), want, wrong, two.Fuel())
			}
			if !sameTold(one, two, first, second) {
				t.Fatalf("seed %d, act %d: %v, want %v", seed, i, now(one), two.Shapes())
			}
			n.count(got, err)
		}
	}
	if min(n.answers, n.yes, n.no, n.throws, n.references, n.stops) < 2500 {
		t.Errorf("%+v", n)
	}
}

// W7: with more fuel nothing is otherwise; with less it stops, having spent all.
func TestMoreFuel(t *testing.T) {
	t.Parallel()
	by := byPackage()
	for seed := range int64(1500) {
		play := func(fuel int) (string, error, int, moment) {
			h, c := build(t, seed, 8, by, func() {})
			h.Refuel(fuel)
			s, err := do(h, c, by)
			return s, err, fuel - h.Fuel(), now(h)
		}
		s, err, spent, left := play(1 << 20)
		for fuel := range min(spent+4, 120) {
			got, wrong, less, after := play(fuel)
			if fuel < spent && (got != "" || wrong != api.ErrFuel || less != fuel) {
				t.Fatalf("W7: seed %d, fuel %d of %d: %s, %v, %d spent", seed, fuel, spent, got, wrong, less)
			}
			if fuel >= spent && (got != s || !sameError(wrong, err) || less != spent || !sameMoment(after, left)) {
				t.Fatalf("W7: seed %d, fuel %d of %d: %s, %v, %d spent; want %s, %v", seed, fuel, spent, got, wrong, less, s, err)
			}
		}
	}
}
