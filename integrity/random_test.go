package integrity_test

// Objects of every class, programs and acts at random: both readings answer the same, cost the same, and leave the same (21.1 to 21.5).

import (
	"math/rand"
	"testing"

	"cameo/api"
	"cameo/args"
	"cameo/array"
	"cameo/bound"
	"cameo/call"
	"cameo/heap"
	"cameo/namespace"
	"cameo/proxy"
	"cameo/strobj"
	"cameo/typed"
)

// chance makes things up at random, over a heap of so many objects.
type chance struct {
	*rand.Rand
	objects int
}

func newChance(seed int64, objects int) *chance {
	return &chance{rand.New(rand.NewSource(seed)), objects}
}

func pick[T any](c *chance, l ...T) T { return l[c.Intn(len(l))] }

func (c *chance) ref() api.Value { return ref(1 + c.Intn(c.objects)) }

// words is names, of which there are few, so that two are often the same.
func words() []string { return []string{"a", "b", "0", "1", "2", "length", "callee", "-0", ""} }

func (c *chance) key() api.Key {
	if c.Intn(5) == 0 {
		return sym(pick(c, 1, 3, api.SymToStringTag))
	}
	return str(pick(c, words()...))
}

// value is of few values, so that two are often the same.
func (c *chance) value() api.Value {
	if c.Intn(2) == 0 {
		return c.ref()
	}
	return pick(c, undefined(), null(), yes(), no(), num(0), num(below0), num(nan), num(1), num(2), text("a"), text("b"), symbol(3))
}

// anyValue is sometimes none of the heap.
func (c *chance) anyValue() api.Value {
	if c.Intn(20) == 0 {
		return pick(c, append(broken()[:20], strangers()...)...)
	}
	return c.value()
}

func (c *chance) values() []api.Value {
	var l []api.Value
	for range c.Intn(4) {
		l = append(l, c.value())
	}
	return l
}

// proto is what may be a prototype.
func (c *chance) proto() api.Value { return pick(c, null(), null(), c.ref()) }

// desc is a descriptor, whose getter and setter are among some functions.
func (c *chance) desc(functions []int) api.Desc {
	tri := func() api.Tri { return api.Tri(c.Intn(3)) }
	d := api.Desc{Enumerable: tri(), Configurable: pick(c, api.Yes, api.Yes, tri())}
	if c.Intn(4) == 0 {
		f := func() api.Value {
			return pick(c, api.Value{}, undefined(), ref(pick(c, functions...)), ref(pick(c, functions...)))
		}
		d.Get, d.Set = f(), f()
		return d
	}
	d.Writable = pick(c, api.Yes, tri())
	if c.Intn(3) > 0 {
		d.Value = c.value()
	}
	return d
}

// The objects that build makes: an ordinary one; two native functions, of which one looks, and one does something; three functions with bodies; an array; arguments; a buffer and two typed arrays over it, of which one has no elements; a String object; a namespace; a bound function; two ordinary ones; two handlers, the second one with most traps, and proxies of either; a proxy of a proxy, and its child.
const (
	looker   = 2
	doer     = 3
	bodyA    = 4
	list     = 7
	mapped   = 8
	buffer   = 9
	elements = 10
	module   = 13
	guardA   = 17
	guardB   = 18
	proxyA   = 19
	last     = 22
	mostOf   = 60
)

func functions() []int { return []int{looker, doer, bodyA, bodyA + 1, bodyA + 2, module + 1} }

// op is an operation that does something with an object.
func (c *chance) op(functions []int) api.Op {
	o := api.Op{Code: pick(c, api.OGet, api.OSet, api.ODefine, api.ODefine, api.ODelete, api.ODelete, api.OHas, api.OOwn, api.OExt, api.OProto, api.OPrevent, api.OCall, api.OReproto, api.OReproto, api.OConst, api.OThis, api.OArg, api.OMake),
		To: pick(c, 0, 1, 2), A: c.Intn(4), B: c.Intn(4), C: c.Intn(4), Key: c.key(), Val: c.value(), Catch: c.Intn(4) > 0}
	if o.Code == api.ODefine {
		o.Desc = c.desc(functions)
		o.Flag = o.Desc.Get.Kind == api.KNone && o.Desc.Set.Kind == api.KNone && c.Intn(2) == 0
	}
	return o
}

// body has in its registers: one object of all, the receiver, and two arguments; 5 is one that looks, 6 one that does something.
func (c *chance) body(functions []int) []api.Op {
	l := []api.Op{{Code: api.OConst, To: 0, Val: c.ref()}, {Code: api.OThis, To: 1}, {Code: api.OArg, To: 2}, {Code: api.OArg, To: 3, A: 1}, {Code: api.OConst, To: 5, Val: ref(looker)}, {Code: api.OConst, To: 6, Val: ref(doer)}}
	for range 1 + c.Intn(3) {
		l = append(l, c.op(functions), api.Op{Code: api.OCall, To: 7, A: pick(c, 5, 5, 6), B: c.Intn(4), C: 2, Catch: c.Intn(3) > 0})
	}
	return append(l, api.Op{Code: api.OReturn, A: pick(c, 0, 1, 2, 7)})
}

// builder makes a heap by one of the readings. What is made up hangs on the seed alone.
type builder struct {
	*chance
	t      *testing.T
	h      *heap.Heap
	by     reading
	look   func()
	within *chance // what is done in the midst
}

func (b *builder) add(n int, err error) int {
	b.t.Helper()
	made(b.t, n, err)
	b.objects = max(b.objects, b.h.Len())
	return n
}

func build(t *testing.T, seed int64, depth int, by reading, look func()) (*heap.Heap, *chance) {
	t.Helper()
	b := &builder{newChance(seed, doer), t, newHeap(t, mostOf, 1<<20, depth), by, look, newChance(^seed, last)}
	h := b.h
	object(t, h, null(), has("a", num(1)))
	addNative(t, h, func(this api.Value, _ []api.Value) (api.Value, error) {
		look()
		return this, nil
	})
	addNative(t, h, func(this api.Value, _ []api.Value) (api.Value, error) {
		return this, b.midst()
	})
	known := []int{looker, doer}
	for i := range 3 {
		b.add(call.New(h, null(), b.body(known), b.Intn(2) == 0))
		known = append(known, bodyA+i)
	}
	b.add(array.Of(h, b.proto(), b.values()))
	b.add(args.Mapped(h, b.proto(), b.values(), []string{"a", "b", "a"}[:b.Intn(4)], b.value()))
	b.add(typed.Buffer(h, b.proto(), 8))
	b.add(typed.New(h, b.proto(), buffer, api.TInt8, 0, 2))
	b.add(typed.New(h, b.proto(), buffer, api.TInt8, 0, 0))
	b.add(strobj.New(h, b.proto(), pick(b.chance, "", "a", "ab")))
	b.add(namespace.New(h, []string{"a", "b", "0"}[:b.Intn(4)]))
	b.add(bound.Bind(h, pick(b.chance, known...), b.value(), b.values()))
	b.add(h.Make(b.proto()))
	b.add(h.Make(b.proto()))
	b.add(h.Make(null()))
	b.add(h.Make(null()))
	b.guards()
	b.add(proxy.New(h, b.ref(), ref(guardA)))
	b.add(proxy.New(h, pick(b.chance, ref(list), ref(mapped), ref(module+2), b.ref()), ref(guardB)))
	b.add(proxy.New(h, pick(b.chance, ref(proxyA), ref(proxyA+1)), ref(pick(b.chance, guardA, guardB))))
	b.add(h.Make(ref(last - 1)))
	b.furnish()
	return h, b.chance
}

// guards gives handlers their traps: such that do as they should, having done something else before, and any functions.
func (b *builder) guards() {
	for _, trap := range proxy.Traps() {
		if b.Intn(4) == 0 {
			lay(b.t, b.h, guardA, has(trap, ref(pick(b.chance, functions()...))))
		}
	}
	// New objects come behind all others, and are nobody's values.
	for _, trap := range every() {
		on, busy := forwards(b.h, trap), b.Intn(3) == 0
		if b.Intn(4) == 0 {
			continue
		}
		f := addNative(b.t, b.h, func(this api.Value, l []api.Value) (api.Value, error) {
			b.look()
			if busy && b.within.Intn(2) == 0 {
				if err := b.midst(); err != nil {
					return api.Value{}, err
				}
			}
			if !fit(trap, l) {
				return this, nil // somebody else has called it
			}
			return on(this, l)
		})
		lay(b.t, b.h, guardB, has(trap, ref(f)))
	}
}

// fit tells whether a trap is given what it is as a trap.
func fit(trap string, l []api.Value) bool {
	need := map[string]int{"getOwnPropertyDescriptor": 2, "defineProperty": 3}[trap]
	return len(l) >= max(need, 1) && l[0].Kind == api.KRef && (need == 0 || l[1].Kind == api.KStr || l[1].Kind == api.KSym)
}

// midst does something in the midst of whatever is under way; what it throws is lost, now and then.
func (b *builder) midst() error {
	_, err := do(b.h, b.within, b.by)
	var stops bool
	if _, stops = err.(api.Errno); !stops && b.within.Intn(3) > 0 {
		return nil
	}
	return err
}

// furnish gives objects properties, and fixes some.
func (b *builder) furnish() {
	for o := 1; o <= last; o++ {
		class, _ := b.h.Class(o)
		if class == api.CProxy || class == api.CNamespace {
			continue
		}
		for range b.Intn(4) {
			k, d := b.key(), b.desc(functions())
			if class == api.CTyped && k.Sym == 0 && k.Str != "a" && k.Str != "b" {
				continue
			}
			b.h.DefineOwnProperty(o, k, d)
		}
		if b.Intn(5) == 0 {
			b.by.seal(b.h, o)
		}
	}
	for _, name := range []string{"a", "b", "0"} {
		if b.Intn(3) > 0 {
			namespace.Bind(b.h, module, name, b.value())
		}
	}
}

// fixes is one of the seven calls.
func (c *chance) fixes() act {
	o := 1 + c.Intn(last)
	if c.Intn(25) == 0 {
		o = c.Intn(120) - 10
	}
	v, n := pick(c, ref(1+c.Intn(last)), ref(1+c.Intn(last)), c.anyValue()), pick(c, 1, 2, 3, 1, 2, 3, 3, c.Intn(7)-1)
	return pick(c, seal(o), freeze(o), freeze(o), isSealed(o), isFrozen(o), fixing(v, n), fixedness(v, n), harden(v))
}

// method is one of the thirteen methods.
func (c *chance) method() act {
	o, k, v := 1+c.Intn(last), c.key(), c.anyValue()
	w := pick(c, v, c.value(), ref(o), ref(o))
	d, l := c.desc(functions()), c.values()
	return pick(c, gets(o, k, w), sets(o, k, v, ref(o)), sets(o, k, v, ref(o)), sets(o, k, v, w), defines(o, k, d), defines(o, k, d), defines(o, k, d), deletes(o, k), deletes(o, k),
		hasProp(o, k), getOwn(o, k), keysOf(o), getProto(o), setProto(o, c.proto()), setProto(o, c.proto()), isExt(o), prevent(o), calls(pick(c, functions()...), w, l...))
}

// do does one thing with a heap, made up at random.
func do(h *heap.Heap, c *chance, by reading) (string, error) {
	x, y, n, v, name := c.fixes(), c.method(), c.Intn(60), c.value(), pick(c, "a", "b", "0")
	switch {
	case n == 0:
		return saidErrno(typed.Detach(h, buffer))
	case n == 1:
		return saidErrno(proxy.Revoke(h, proxyA+c.Intn(3)))
	case n < 6:
		return saidErrno(args.SetSlot(h, mapped, name, v))
	case n < 10:
		return saidErrno(namespace.Bind(h, module, name, v))
	case n < 35:
		return x.playedBy(h, by)
	}
	return y.entered(h)
}

func saidErrno(e api.Errno) (string, error) {
	if e != api.OK {
		return "", e
	}
	return "", nil
}

// tally counts what acts come to.
type tally struct {
	answers, yes, no, throws, values, stops int
}

func (n *tally) count(answer string, err error) {
	_, stops := err.(api.Errno)
	switch {
	case stops:
		n.stops++
	case sameError(err, typeError()):
		n.throws++
	case err != nil:
		n.values++
	case answer == "true":
		n.yes++
	case answer == "false":
		n.no++
	default:
		n.answers++
	}
}

func TestTwoReadings(t *testing.T) {
	t.Parallel()
	var n tally
	for seed := range int64(3000) {
		depth := pick(newChance(seed, 1), 1, 2, 3, 5, 20)
		first, second := byPackage(), byTwins()
		one, c := build(t, seed, depth, first, func() {})
		two, d := build(t, seed, depth, second, func() {})
		for i := range 20 {
			fuel := pick(c, c.Intn(12), c.Intn(300), 300)
			pick(d, d.Intn(12), d.Intn(300), 300)
			one.Refuel(fuel)
			two.Refuel(fuel)
			x, y := c.fixes(), d.fixes()
			got, err := x.playedBy(one, first)
			want, wrong := y.playedBy(two, second)
			if i%4 == 3 {
				got, err = do(one, c, first)
				want, wrong = do(two, d, second)
			}
			if got != want || !sameError(err, wrong) || one.Fuel() != two.Fuel() {
				t.Fatalf("seed %d, act %d, %v: %s, %v with %d left, want %s, %v with %d", seed, i, x, got, err, one.Fuel(), want, wrong, two.Fuel())
			}
			if a, b := now(one), now(two); !sameMoment(a, b) {
				t.Fatalf("seed %d, act %d, %v: %v, want %v", seed, i, x, a, b)
			}
			n.count(got, err)
		}
	}
	if min(n.answers, n.yes, n.no, n.throws, n.stops) < 1000 || n.values < 200 {
		t.Errorf("%+v", n)
	}
}

// W7: with more fuel nothing is otherwise; with less it stops, having spent all.
func TestMoreFuel(t *testing.T) {
	t.Parallel()
	by, long := byPackage(), 0
	for seed := range int64(800) {
		play := func(fuel int) (string, error, int, moment) {
			h, c := build(t, seed, 12, by, func() {})
			h.Refuel(fuel)
			s, err := c.fixes().playedBy(h, by)
			return s, err, fuel - h.Fuel(), now(h)
		}
		s, err, spent, left := play(1 << 12)
		if spent > 12 {
			long++
		}
		for fuel := range min(spent+4, 90) {
			got, wrong, less, after := play(fuel)
			if fuel < spent && (got != "" || wrong != api.ErrFuel || less != fuel) {
				t.Fatalf("W7: seed %d, fuel %d of %d: %s, %v, %d spent", seed, fuel, spent, got, wrong, less)
			}
			if fuel >= spent && (got != s || !sameError(wrong, err) || less != spent || !sameMoment(after, left)) {
				t.Fatalf("W7: seed %d, fuel %d of %d: %s, %v, %d spent; want %s, %v", seed, fuel, spent, got, wrong, less, s, err)
			}
		}
	}
	if long < 50 {
		t.Errorf("%d acts were long", long)
	}
}
