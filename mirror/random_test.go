package mirror_test

// Objects of every class, programs and acts at random: both readings answer the same, cost the same, and leave the same (22.1 to 22.8).

import (
	"math/rand"
	"testing"

	"cameo/api"
	"cameo/args"
	"cameo/array"
	"cameo/bound"
	"cameo/call"
	"cameo/heap"
	"cameo/namespace"
	"cameo/proxy"
	"cameo/strobj"
	"cameo/typed"
)

// chance makes things up at random, over a heap of so many objects.
type chance struct {
	*rand.Rand
	objects int
}

func newChance(seed int64, objects int) *chance {
	return &chance{rand.New(rand.NewSource(seed)), objects}
}

func pick[T any](c *chance, l ...T) T { return l[c.Intn(len(l))] }

func (c *chance) ref() api.Value { return ref(1 + c.Intn(c.objects)) }

// words is names, of which there are few, so that two are often the same.
func words() []string { return []string{"a", "b", "0", "1", "2", "length", "value", "-0", ""} }

func (c *chance) key() api.Key {
	if c.Intn(5) == 0 {
		return sym(pick(c, 1, 3, api.SymToStringTag))
	}
	return str(pick(c, words()...))
}

// value is of few values, so that two are often the same.
func (c *chance) value() api.Value {
	if c.Intn(2) == 0 {
		return c.ref()
	}
	return pick(c, undefined(), null(), yes(), no(), num(0), num(below0), num(nan), num(1), num(2), text("a"), text("b"), symbol(3))
}

// anyValue is sometimes none of the heap.
func (c *chance) anyValue() api.Value {
	if c.Intn(30) == 0 {
		return pick(c, append(broken()[:20], ref(60000))...)
	}
	return c.value()
}

func (c *chance) values() []api.Value {
	var l []api.Value
	for range c.Intn(4) {
		l = append(l, c.value())
	}
	return l
}

// proto is what may be a prototype.
func (c *chance) proto() api.Value { return pick(c, null(), null(), c.ref()) }

// desc is a descriptor, whose getter and setter are among some functions.
func (c *chance) desc(functions []int) api.Desc {
	tri := func() api.Tri { return api.Tri(c.Intn(3)) }
	d := api.Desc{Enumerable: pick(c, api.Yes, tri()), Configurable: pick(c, api.Yes, api.Yes, tri())}
	if c.Intn(4) == 0 {
		f := func() api.Value {
			return pick(c, api.Value{}, undefined(), ref(pick(c, functions...)), ref(pick(c, functions...)))
		}
		d.Get, d.Set = f(), f()
		return d
	}
	d.Writable = pick(c, api.Yes, tri())
	if c.Intn(3) > 0 {
		d.Value = c.value()
	}
	return d
}

// The objects that build makes: an ordinary one; two native functions, of which one looks, and one does something; three functions with bodies; an array; arguments; a buffer and two typed arrays over it, of which one has no elements; a String object; a namespace; a bound function; two ordinary ones; two handlers, the second one with most traps, and proxies of either; a proxy of a proxy, and its child; two that are attributes, one that has these, a list, and one that is a key.
const (
	looker   = 2
	doer     = 3
	bodyA    = 4
	arrayA   = 7
	mapped   = 8
	buffer   = 9
	typedA   = 10
	module   = 13
	bindA    = 14
	guardA   = 17
	guardB   = 18
	proxyA   = 19
	flagsA   = 23
	flagsB   = 24
	propsA   = 25
	listA    = 26
	keyA     = 27
	lastOf   = 27
	mostWide = 300
)

func functions() []int { return []int{looker, doer, bodyA, bodyA + 1, bodyA + 2, bindA} }

// op is an operation that does something with an object.
func (c *chance) op(functions []int) api.Op {
	o := api.Op{Code: pick(c, api.OGet, api.OSet, api.ODefine, api.ODefine, api.ODelete, api.ODelete, api.OHas, api.OOwn, api.OExt, api.OProto, api.OPrevent, api.OCall, api.OReproto, api.OReproto, api.OConst, api.OThis, api.OArg, api.OMake),
		To: pick(c, 0, 1, 2), A: c.Intn(4), B: c.Intn(4), C: c.Intn(4), Key: c.key(), Val: c.value(), Catch: c.Intn(4) > 0}
	if o.Code == api.ODefine {
		o.Desc = c.desc(functions)
		o.Flag = o.Desc.Get.Kind == api.KNone && o.Desc.Set.Kind == api.KNone && c.Intn(2) == 0
	}
	return o
}

// body has in its registers: one object of all, the receiver, and two arguments; 5 is one that looks, 6 one that does something, 8 a word.
func (c *chance) body(functions []int) []api.Op {
	l := []api.Op{{Code: api.OConst, To: 0, Val: c.ref()}, {Code: api.OThis, To: 1}, {Code: api.OArg, To: 2}, {Code: api.OArg, To: 3, A: 1}, {Code: api.OConst, To: 5, Val: ref(looker)}, {Code: api.OConst, To: 6, Val: ref(doer)}, {Code: api.OConst, To: 8, Val: text(pick(c, words()...))}}
	for range 1 + c.Intn(3) {
		l = append(l, c.op(functions), api.Op{Code: api.OCall, To: 7, A: pick(c, 5, 5, 6), B: c.Intn(4), C: 2, Catch: c.Intn(3) > 0})
	}
	return append(l, api.Op{Code: api.OReturn, A: pick(c, 0, 1, 2, 7, 8, 8)})
}

// builder makes a heap by one of the readings. What is made up hangs on the seed alone.
type builder struct {
	*chance
	t      *testing.T
	h      *heap.Heap
	by     reading
	look   func()
	within *chance // what is done in the midst
}

func (b *builder) add(n int, err error) int {
	b.t.Helper()
	made(b.t, n, err)
	b.objects = max(b.objects, b.h.Len())
	return n
}

func build(t *testing.T, seed int64, capacity, depth int, by reading, look func()) (*heap.Heap, *chance) {
	t.Helper()
	b := &builder{newChance(seed, doer), t, newHeap(t, capacity, 1<<20, depth), by, look, newChance(^seed, lastOf)}
	h := b.h
	object(t, h, null(), has("a", num(1)))
	addNative(t, h, func(this api.Value, _ []api.Value) (api.Value, error) {
		look()
		return this, nil
	})
	addNative(t, h, func(this api.Value, _ []api.Value) (api.Value, error) {
		if err := b.midst(); err != nil {
			return api.Value{}, err
		}
		return this, nil
	})
	known := []int{looker, doer}
	for i := range 3 {
		b.add(call.New(h, null(), b.body(known), i == 1 || b.Intn(2) == 0))
		known = append(known, bodyA+i)
	}
	b.add(array.Of(h, b.proto(), b.values()))
	b.add(args.Mapped(h, b.proto(), b.values(), []string{"a", "b", "a"}[:b.Intn(4)], b.value()))
	b.add(typed.Buffer(h, b.proto(), 8))
	b.add(typed.New(h, b.proto(), buffer, api.TInt8, 0, 2))
	b.add(typed.New(h, b.proto(), buffer, api.TInt8, 0, 0))
	b.add(strobj.New(h, b.proto(), pick(b.chance, "", "a", "ab")))
	b.add(namespace.New(h, []string{"a", "b", "0"}[:b.Intn(4)]))
	b.add(bound.Bind(h, pick(b.chance, known...), b.value(), b.values()))
	b.add(h.Make(b.proto()))
	b.add(h.Make(b.proto()))
	b.add(h.Make(null()))
	b.add(h.Make(null()))
	b.add(proxy.New(h, b.ref(), ref(guardA)))
	b.add(proxy.New(h, pick(b.chance, ref(arrayA), ref(mapped), ref(bodyA+1), ref(module+2), b.ref()), ref(guardB)))
	b.add(proxy.New(h, pick(b.chance, ref(proxyA), ref(proxyA+1)), ref(pick(b.chance, guardA, guardB))))
	b.add(h.Make(ref(lastOf - 6)))
	for range 5 {
		b.add(h.Make(b.proto()))
	}
	b.guards()
	b.furnish()
	return h, b.chance
}

// guards gives handlers their traps: such that do as they should, having done something else before, and any functions.
func (b *builder) guards() {
	for _, trap := range proxy.Traps() {
		if b.Intn(4) == 0 {
			lay(b.t, b.h, guardA, has(trap, ref(pick(b.chance, functions()...))))
		}
	}
	// These come behind all others, and are nobody's values.
	for _, trap := range proxy.Traps() {
		on, busy := forwards(b.h, trap), b.Intn(3) == 0
		if b.Intn(4) == 0 {
			continue
		}
		f := addNative(b.t, b.h, func(this api.Value, l []api.Value) (api.Value, error) {
			b.look()
			if busy && b.within.Intn(2) == 0 {
				if err := b.midst(); err != nil {
					return api.Value{}, err
				}
			}
			if !fit(b.h, trap, l) {
				return this, nil // somebody else has called it
			}
			return on(this, l)
		})
		lay(b.t, b.h, guardB, has(trap, ref(f)))
	}
}

// fit tells whether a trap is given what it is as a trap.
func fit(h *heap.Heap, trap string, l []api.Value) bool {
	need := map[string]int{"setPrototypeOf": 2, "getOwnPropertyDescriptor": 2, "has": 2, "deleteProperty": 2, "defineProperty": 3, "get": 3, "set": 4, "apply": 3, "construct": 3}[trap]
	if len(l) < max(need, 1) || l[0].Kind != api.KRef {
		return false
	}
	switch trap {
	case "setPrototypeOf":
		return l[1].Kind == api.KRef || l[1].Kind == api.KNull
	case "apply":
		return h.Callable(l[0])
	case "construct":
		return h.Constructor(l[0]) && h.Constructor(l[2])
	}
	return need == 0 || l[1].Kind == api.KStr || l[1].Kind == api.KSym
}

// midst does something in the midst of whatever is under way; what it throws is lost, now and then.
func (b *builder) midst() error {
	_, err := do(b.h, b.within, b.by)
	var stops bool
	if _, stops = err.(api.Errno); !stops && b.within.Intn(3) > 0 {
		return nil
	}
	return err
}

// furnish gives objects properties, and fixes some.
func (b *builder) furnish() {
	for o := 1; o <= lastOf; o++ {
		class, _ := b.h.Class(o)
		if class == api.CProxy || class == api.CNamespace {
			continue
		}
		for range b.Intn(4) {
			k, d := b.key(), b.desc(functions())
			if class == api.CTyped && k.Sym == 0 && k.Str != "a" && k.Str != "b" {
				continue
			}
			b.h.DefineOwnProperty(o, k, d)
		}
		if b.Intn(6) == 0 {
			b.h.PreventExtensions(o)
		}
	}
	for _, name := range []string{"a", "b", "0"} {
		if b.Intn(3) > 0 {
			namespace.Bind(b.h, module, name, b.value())
		}
	}
	b.roles()
}

// roles gives the objects that are attributes, lists and keys what they need for that; some of them are shut, and get nothing.
func (b *builder) roles() {
	define := func(o int, k api.Key, v api.Value) {
		d := data(v, "wec")
		if b.Intn(6) == 0 {
			d = accessor(ref(pick(b.chance, functions()...)), undefined(), "ec")
		}
		b.h.DefineOwnProperty(o, k, d)
	}
	for _, o := range []int{flagsA, flagsB} {
		for _, name := range []string{"enumerable", "configurable", "writable", "value"} {
			if b.Intn(2) == 0 {
				define(o, str(name), b.value())
			}
		}
		if b.Intn(3) == 0 {
			define(o, str(pick(b.chance, "get", "set")), pick(b.chance, undefined(), ref(pick(b.chance, functions()...)), b.value()))
		}
	}
	for range 3 {
		define(propsA, b.key(), ref(pick(b.chance, flagsA, flagsB)))
	}
	define(listA, str("length"), pick(b.chance, num(0), num(1), num(2), num(2), text("1"), b.value(), num(2000)))
	define(listA, str("0"), b.value())
	define(keyA, pick(b.chance, str("toString"), str("toString"), str("valueOf"), sym(api.SymToPrimitive)), ref(pick(b.chance, functions()...)))
}

// asKey is a value as a key, or an object that is asked.
func (c *chance) asKey() api.Value {
	if c.Intn(4) == 0 {
		return pick(c, ref(keyA), ref(keyA), ref(arrayA), c.anyValue())
	}
	return word(c.key())
}

// list is what may be a list, and constructor what may be one.
func (c *chance) list() api.Value {
	return pick(c, ref(listA), ref(listA), ref(arrayA), ref(mapped), ref(typedA), ref(typedA+2), c.anyValue())
}

func (c *chance) constructor() api.Value {
	return pick(c, ref(bodyA+1), ref(bodyA+1), ref(bodyA), ref(bindA), ref(proxyA+1), ref(pick(c, functions()...)), c.anyValue())
}

func (c *chance) object() api.Value { return pick(c, c.ref(), c.ref(), c.ref(), c.anyValue()) }

// call is one of all calls.
func (c *chance) call() act {
	o, k, v, w := c.object(), c.asKey(), c.anyValue(), c.object()
	flags := pick(c, ref(flagsA), ref(flagsB), ref(flagsA), c.anyValue())
	props := pick(c, ref(propsA), ref(propsA), undefined(), c.anyValue())
	f := pick(c, c.constructor(), ref(pick(c, functions()...)))
	return pick(c,
		ask("Object", v), ask("IsArray", o), ask("Tag", o), ask("Tag", v), ask("Apply", f, v, c.list()), ask("Construct", c.constructor(), c.list(), c.constructor()), ask("Construct", c.constructor(), c.list(), ref(bodyA+1)),
		ask("DefineProperty", o, k, flags), ask("DefineProperty", o, k, flags), ask("DeleteProperty", o, k), ask("DeleteProperty", o, k), ask("Get", o, k, pick(c, o, v)), ask("Get", o, k, o), ask("Set", o, k, v, o), ask("Set", o, k, v, o), ask("Set", o, k, v, w), ask("Has", o, k), ask("HasOwn", o, k), ask("HasOwn", v, k), ask("Descriptor", o, k),
		ask("GetPrototypeOf", o), ask("SetPrototypeOf", o, c.proto()), ask("SetPrototypeOf", o, pick(c, c.proto(), v)), ask("IsExtensible", o), ask("PreventExtensions", o), ask("OwnKeys", o),
		ask("Create", pick(c, c.proto(), c.proto(), v), props), ask("DefineProperties", o, props), ask("DefineProperties", o, props), ask("Descriptors", o), ask("Descriptors", v), ask("Assign", o, w), ask("Assign", o, w, v), ask("Assign", v, w, o, v), ask("Assign", o),
		ask("Keys", o), ask("Values", o), ask("Values", w), ask("Entries", o), ask("Entries", v), ask("Names", o), ask("Symbols", o), ask("Keys", v))
}

// do does one thing with a heap, made up at random.
func do(h *heap.Heap, c *chance, by reading) (string, error) {
	x, n, v, name := c.call(), c.Intn(60), c.value(), pick(c, "a", "b", "0")
	switch {
	case n == 0:
		return saidErrno(typed.Detach(h, buffer))
	case n == 1:
		return saidErrno(proxy.Revoke(h, proxyA+c.Intn(3)))
	case n < 5:
		return saidErrno(args.SetSlot(h, mapped, name, v))
	case n < 8:
		return saidErrno(namespace.Bind(h, module, name, v))
	}
	return x.playedBy(h, by)
}

func saidErrno(e api.Errno) (string, error) {
	if e != api.OK {
		return "", e
	}
	return "", nil
}

// tally counts what calls come to.
type tally struct{ answers, throws, values, stops int }

func (n *tally) count(err error) {
	_, stops := err.(api.Errno)
	switch {
	case err == nil:
		n.answers++
	case stops:
		n.stops++
	case sameError(err, typeError()):
		n.throws++
	default:
		n.values++
	}
}

func TestTwoReadings(t *testing.T) {
	t.Parallel()
	all := map[string]*tally{}
	for seed := range int64(1500) {
		first, second := byPackage(), byTwins()
		depth, capacity := pick(newChance(seed, 1), 1, 2, 3, 5, 20), pick(newChance(seed+1, 1), 45, mostWide)
		one, c := build(t, seed, capacity, depth, first, func() {})
		two, d := build(t, seed, capacity, depth, second, func() {})
		for i := range 20 {
			fuel := pick(c, c.Intn(12), c.Intn(300), 300)
			pick(d, d.Intn(12), d.Intn(300), 300)
			one.Refuel(fuel)
			two.Refuel(fuel)
			x, y := c.call(), d.call()
			got, err := x.playedBy(one, first)
			want, wrong := y.playedBy(two, second)
			if got != want || !sameError(err, wrong) || one.Fuel() != two.Fuel() {
				t.Fatalf("seed %d, act %d, %v: %s, %v with %d left, want %s, %v with %d", seed, i, x, got, err, one.Fuel(), want, wrong, two.Fuel())
			}
			if a, b := now(one), now(two); !sameMoment(a, b) {
				t.Fatalf("seed %d, act %d, %v: %v, want %v", seed, i, x, a, b)
			}
			if all[x.name] == nil {
				all[x.name] = &tally{}
			}
			all[x.name].count(err)
		}
	}
	for _, name := range names() {
		n := all[name]
		rare := name == "Object" || name == "IsArray" || name == "Tag" // throw or stop but seldom
		if n == nil || n.answers < 80 || !rare && min(n.throws, n.stops) < 10 {
			t.Errorf("%s: %+v", name, n)
		}
	}
}

// W7: with more fuel nothing is otherwise; with less it stops, having spent all.
func TestMoreFuel(t *testing.T) {
	t.Parallel()
	by, long := byPackage(), 0
	for seed := range int64(800) {
		play := func(fuel int) (string, error, int, moment) {
			h, c := build(t, seed, mostWide, 12, by, func() {})
			h.Refuel(fuel)
			s, err := c.call().playedBy(h, by)
			return s, err, fuel - h.Fuel(), now(h)
		}
		s, err, spent, left := play(1 << 12)
		if spent > 12 {
			long++
		}
		for fuel := range min(spent+3, 60) {
			got, wrong, less, after := play(fuel)
			if fuel < spent && (got != "" || wrong != api.ErrFuel || less != fuel) {
				t.Fatalf("W7: seed %d, fuel %d of %d: %s, %v, %d spent", seed, fuel, spent, got, wrong, less)
			}
			if fuel >= spent && (got != s || !sameError(wrong, err) || less != spent || !sameMoment(after, left)) {
				t.Fatalf("W7: seed %d, fuel %d of %d: %s, %v, %d spent; want %s, %v", seed, fuel, spent, got, wrong, less, s, err)
			}
		}
	}
	if long < 50 {
		t.Errorf("%d acts were long", long)
	}
}
