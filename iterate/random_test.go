package iterate_test

// Objects of every class, iterators, programs and acts at random: both readings answer the same, cost the same, and leave the same (23.1 to 23.9).

import (
	"errors"
	"maps"
	"math/rand"
	"slices"
	"testing"

	"cameo/api"
	"cameo/args"
	"cameo/array"
	"cameo/bound"
	"cameo/call"
	"cameo/heap"
	"cameo/namespace"
	"cameo/proxy"
	"cameo/strobj"
	"cameo/typed"
)

// chance makes things up at random, over a heap of so many objects.
type chance struct {
	*rand.Rand
	objects int
}

func newChance(seed int64, objects int) *chance {
	return &chance{rand.New(rand.NewSource(seed)), objects}
}

func pick[T any](c *chance, l ...T) T { return l[c.Intn(len(l))] }

func (c *chance) ref() api.Value { return ref(1 + c.Intn(c.objects)) }

// key is one of a few, so that two are often the same.
func (c *chance) key() api.Key {
	switch c.Intn(12) {
	case 0:
		return sym(pick(c, 3, api.SymIterator))
	case 1, 2:
		return str("length")
	case 3:
		return str(pick(c, "next", "return", "done", "value"))
	}
	return str(pick(c, "a", "b", "0", "1", "2", "-0", ""))
}

// value is of few values, so that two are often the same.
func (c *chance) value() api.Value {
	if c.Intn(2) == 0 {
		return c.ref()
	}
	return pick(c, undefined(), null(), yes(), no(), num(0), num(nan), num(1), num(2), num(3), text("a"), text("2"), symbol(3))
}

// anyValue is sometimes none of the heap.
func (c *chance) anyValue() api.Value {
	if c.Intn(30) == 0 {
		return pick(c, append(broken()[:20], ref(60000))...)
	}
	return c.value()
}

func (c *chance) values() []api.Value {
	var l []api.Value
	for range c.Intn(4) {
		l = append(l, c.value())
	}
	return l
}

// proto is what may be a prototype.
func (c *chance) proto() api.Value { return pick(c, null(), null(), c.ref()) }

// desc is a descriptor, whose getter and setter are among some functions.
func (c *chance) desc(functions []int) api.Desc {
	tri := func() api.Tri { return api.Tri(c.Intn(3)) }
	d := api.Desc{Enumerable: pick(c, api.Yes, tri()), Configurable: pick(c, api.Yes, api.Yes, tri())}
	if c.Intn(4) == 0 {
		f := func() api.Value {
			return pick(c, api.Value{}, undefined(), ref(pick(c, functions...)), ref(pick(c, functions...)))
		}
		d.Get, d.Set = f(), f()
		return d
	}
	d.Writable = pick(c, api.Yes, tri())
	if c.Intn(3) > 0 {
		d.Value = c.value()
	}
	return d
}

// The objects that build makes: an ordinary one; two native functions, of which one looks, and one does something; three functions with bodies; an array; arguments; a buffer and two typed arrays over it; a String object; a namespace; a bound function; two ordinary ones; two handlers, the second one with most traps, and proxies of either; what asks array iterators, their prototype, and three makers; what has one of these; an iterator of a program, its functions, what next answers, and what has it; and three array iterators.
const (
	looker   = 2
	doer     = 3
	bodyA    = 4
	arrayA   = 7
	mapped   = 8
	buffer   = 9
	typedA   = 10
	module   = 13
	bindA    = 14
	guardA   = 17
	guardB   = 18
	proxyA   = 19
	askerA   = 22
	protoA   = 23
	makerA   = 24
	runnerA  = 27
	programA = 28
	startA   = 29
	nextA    = 30
	returnA  = 31
	bodyOf   = 32
	resultA  = 33
	overA    = 34
	iterA    = 35
	lastOf   = 37
	mostWide = 300
)

func functions() []int {
	return []int{looker, doer, bodyA, bodyA + 1, bodyA + 2, bindA, askerA, makerA, makerA + 1, makerA + 2, nextA, returnA}
}

// op is an operation that does something with an object.
func (c *chance) op(functions []int) api.Op {
	o := api.Op{Code: pick(c, api.OGet, api.OSet, api.OSet, api.ODefine, api.ODefine, api.ODelete, api.OHas, api.OOwn, api.OExt, api.OProto, api.OPrevent, api.OCall, api.OReproto, api.OConst, api.OThis, api.OArg, api.OMake),
		To: pick(c, 0, 1, 2), A: c.Intn(4), B: c.Intn(4), C: c.Intn(4), Key: c.key(), Val: c.value(), Catch: c.Intn(4) > 0}
	if o.Code == api.ODefine {
		o.Desc = c.desc(functions)
		o.Flag = o.Desc.Get.Kind == api.KNone && o.Desc.Set.Kind == api.KNone && c.Intn(2) == 0
	}
	return o
}

// body has in its registers: one object of all, the receiver, and two arguments; 5 is one that looks, 6 one that does something, 8 a value.
func (c *chance) body(functions []int) []api.Op {
	l := []api.Op{{Code: api.OConst, To: 0, Val: c.ref()}, {Code: api.OThis, To: 1}, {Code: api.OArg, To: 2}, {Code: api.OArg, To: 3, A: 1}, {Code: api.OConst, To: 5, Val: ref(looker)}, {Code: api.OConst, To: 6, Val: ref(doer)}, {Code: api.OConst, To: 8, Val: pick(c, num(2), num(0), no(), c.ref())}}
	for range 1 + c.Intn(3) {
		l = append(l, c.op(functions), api.Op{Code: api.OCall, To: 7, A: pick(c, 5, 5, 6), B: c.Intn(4), C: 2, Catch: c.Intn(3) > 0})
	}
	return append(l, api.Op{Code: pick(c, api.OReturn, api.OReturn, api.OReturn, api.OReturn, api.OThrow), A: pick(c, 0, 1, 2, 7, 8, 8)})
}

// builder makes a heap by one of the readings. What is made up hangs on the seed alone.
type builder struct {
	*chance
	t      *testing.T
	h      *heap.Heap
	by     reading
	look   func()
	within *chance // what is done in the midst
}

func (b *builder) add(n int, err error) int {
	b.t.Helper()
	made(b.t, n, err)
	b.objects = max(b.objects, b.h.Len())
	return n
}

// acts makes an object by a call of the layer.
func (b *builder) acts(x act) {
	b.t.Helper()
	if _, err := x.playedBy(b.h, b.by); err != nil {
		b.t.Fatal(x, err)
	}
	b.objects = max(b.objects, b.h.Len())
}

func build(t *testing.T, seed int64, capacity, depth int, by reading, look func()) (*heap.Heap, *chance) {
	t.Helper()
	b := &builder{newChance(seed, doer), t, newHeap(t, capacity, 1<<20, depth), by, look, newChance(^seed, lastOf)}
	h := b.h
	object(t, h, null(), has("a", num(1)))
	addNative(t, h, func(this api.Value, _ []api.Value) (api.Value, error) {
		look()
		return this, nil
	})
	addNative(t, h, func(this api.Value, _ []api.Value) (api.Value, error) {
		if err := b.midst(); err != nil {
			return api.Value{}, err
		}
		return this, nil
	})
	known := []int{looker, doer}
	for i := range 3 {
		b.add(call.New(h, null(), b.body(known), i == 1))
		known = append(known, bodyA+i)
	}
	b.add(array.Of(h, b.proto(), b.values()))
	b.add(args.Mapped(h, b.proto(), b.values(), []string{"a", "b", "a"}[:b.Intn(4)], b.value()))
	b.add(typed.Buffer(h, b.proto(), 8))
	b.add(typed.New(h, b.proto(), buffer, api.TInt8, 0, 2))
	b.add(typed.New(h, b.proto(), buffer, api.TInt8, 0, 0))
	b.add(strobj.New(h, b.proto(), pick(b.chance, "", "a", "ab")))
	b.add(namespace.New(h, []string{"a", "length", "0"}[:b.Intn(4)]))
	b.add(bound.Bind(h, pick(b.chance, known...), b.value(), b.values()))
	for range guardB - bindA {
		b.add(h.Make(pick(b.chance, null(), ref(1+b.Intn(bindA)))))
	}
	b.add(proxy.New(h, b.ref(), ref(guardA)))
	b.add(proxy.New(h, pick(b.chance, ref(arrayA), ref(mapped), ref(typedA), ref(module+2), b.ref()), ref(guardB)))
	b.add(proxy.New(h, pick(b.chance, ref(proxyA), ref(proxyA+1)), ref(pick(b.chance, guardA, guardB))))
	b.iterators()
	b.guards()
	b.furnish()
	for i := range 3 {
		b.acts(ask("Call", ref(makerA+i), pick(b.chance, ref(arrayA), ref(mapped), ref(typedA), b.ref())))
	}
	return h, b.chance
}

// iterators makes what goes through things: the layer's functions, and an iterator of a program.
func (b *builder) iterators() {
	b.acts(ask("Next", b.proto()))
	b.add(b.h.Make(null()))
	for kind := range 3 {
		b.acts(makes(b.proto(), kind+1, ref(protoA)))
	}
	for range 2 { // what has a maker, and the program's iterator
		b.add(b.h.Make(pick(b.chance, null(), ref(protoA))))
	}
	b.teller(ref(programA), ref(programA), b.value())
	b.teller(ref(resultA), ref(resultA), ref(resultA), ref(overA), b.value())
	b.teller(ref(resultA), b.value())
	b.teller(undefined(), yes(), b.value(), no())
	for range 2 {
		b.add(b.h.Make(null()))
	}
	lay(b.t, b.h, protoA, has("next", ref(askerA)))
	lay(b.t, b.h, runnerA, marked(api.SymIterator, data(ref(makerA+b.Intn(3)), "wec")), has("0", b.value()), has("length", pick(b.chance, num(1), num(2), num(3), b.value())))
	lay(b.t, b.h, programA, has("next", ref(nextA)), marked(api.SymIterator, data(ref(startA), "wec")))
	lay(b.t, b.h, resultA, has("value", b.value()))
	lay(b.t, b.h, overA, has("done", yes()))
	if b.Intn(3) > 0 {
		lay(b.t, b.h, programA, has("return", ref(returnA)))
	}
	if b.Intn(3) == 0 {
		lay(b.t, b.h, protoA, has("return", ref(returnA)))
	}
}

// teller is a function that answers some of these values, or throws one, having done something else before.
func (b *builder) teller(l ...api.Value) {
	tells := newChance(b.Int63(), lastOf)
	b.add(addNative(b.t, b.h, func(api.Value, []api.Value) (api.Value, error) {
		b.look()
		v := pick(tells, l...)
		switch tells.Intn(12) {
		case 0:
			return api.Value{}, thrown(v)
		case 1:
			return api.Value{}, typeError()
		case 2, 3:
			if err := b.midst(); err != nil {
				return api.Value{}, err
			}
		}
		return v, nil
	}), nil)
}

// guards gives handlers their traps: such that do as they should, having done something else before, and any functions.
func (b *builder) guards() {
	for _, trap := range proxy.Traps() {
		if b.Intn(4) == 0 {
			lay(b.t, b.h, guardA, has(trap, ref(pick(b.chance, functions()...))))
		}
	}
	// These are nobody's values.
	for _, trap := range proxy.Traps() {
		on, busy := forwards(b.h, trap), b.Intn(3) == 0
		if b.Intn(4) == 0 {
			continue
		}
		f := addNative(b.t, b.h, func(this api.Value, l []api.Value) (api.Value, error) {
			b.look()
			if busy && b.within.Intn(2) == 0 {
				if err := b.midst(); err != nil {
					return api.Value{}, err
				}
			}
			if !fit(b.h, trap, l) {
				return this, nil // somebody else has called it
			}
			return on(this, l)
		})
		lay(b.t, b.h, guardB, has(trap, ref(f)))
	}
}

// fit tells whether a trap is given what it is as a trap.
func fit(h *heap.Heap, trap string, l []api.Value) bool {
	need := map[string]int{"setPrototypeOf": 2, "getOwnPropertyDescriptor": 2, "has": 2, "deleteProperty": 2, "defineProperty": 3, "get": 3, "set": 4, "apply": 3, "construct": 3}[trap]
	if len(l) < max(need, 1) || l[0].Kind != api.KRef {
		return false
	}
	switch trap {
	case "setPrototypeOf":
		return l[1].Kind == api.KRef || l[1].Kind == api.KNull
	case "apply":
		return h.Callable(l[0])
	case "construct":
		return h.Constructor(l[0]) && h.Constructor(l[2])
	}
	return need == 0 || l[1].Kind == api.KStr || l[1].Kind == api.KSym
}

// midst does something in the midst of whatever is under way; what it throws is lost, now and then.
func (b *builder) midst() error {
	_, err := do(b.h, b.within, b.by)
	if !isStop(err) && b.within.Intn(3) > 0 {
		return nil
	}
	return err
}

// furnish gives objects properties, and fixes some.
func (b *builder) furnish() {
	for o := 1; o < askerA; o++ {
		class, _ := b.h.Class(o)
		if class == api.CProxy || class == api.CNamespace {
			continue
		}
		for range b.Intn(4) {
			k, d := b.key(), b.desc(functions())
			if class == api.CTyped && k.Sym == 0 && k.Str != "a" && k.Str != "b" && k.Str != "length" {
				continue
			}
			b.h.DefineOwnProperty(o, k, d)
		}
		if b.Intn(3) == 0 {
			b.h.DefineOwnProperty(o, sym(api.SymIterator), data(ref(makerA+b.Intn(3)), "wc"))
		}
		if b.Intn(6) == 0 {
			b.h.PreventExtensions(o)
		}
	}
	for _, name := range []string{"a", "length", "0"} {
		if b.Intn(3) > 0 {
			namespace.Bind(b.h, module, name, b.value())
		}
	}
}

// iterable is what may well be gone through, and iterator what may be asked.
func (c *chance) iterable() api.Value {
	return pick(c, ref(runnerA), ref(programA), ref(programA), ref(arrayA), ref(mapped), ref(typedA), c.ref(), c.anyValue())
}

func (c *chance) iterator(h *heap.Heap) (int, api.Value) {
	o := pick(c, programA, iterA, iterA+1, iterA+2, 1+c.Intn(h.Len()), c.Intn(c.objects+2))
	return o, pick(c, ref(nextA), ref(askerA), ref(askerA), ref(pick(c, functions()...)), c.anyValue())
}

func (c *chance) loop() api.Value {
	return pick(c, ref(bodyOf), ref(bodyOf), ref(looker), ref(doer), ref(pick(c, functions()...)), c.anyValue())
}

func (c *chance) cause() error {
	return pick(c, nil, nil, thrown(c.value()), typeError(), error(api.ErrFuel), errors.New("strange"))
}

// call is one of all calls.
func (c *chance) call(h *heap.Heap) act {
	v, f, cause := c.iterable(), c.loop(), c.cause()
	o, next := c.iterator(h)
	proto, kind := pick(c, c.proto(), c.anyValue()), pick(c, 1, 2, 3, c.Intn(6))
	named := pick(c, c.ref(), c.ref(), c.ref(), ref(1+c.Intn(h.Len())), c.anyValue())
	return pick(c,
		makes(proto, kind, pick(c, ref(protoA), proto)), ask("Next", proto), results(c.anyValue(), c.Intn(2)), ask("Get", v), ask("Get", v),
		steps(o, next), steps(o, next), steps(o, next), closes(o, next, cause), closes(o, next, cause), ask("List", v), ask("List", v), ask("List", v), ask("ForOf", v, f), ask("ForOf", v, f), ask("ForOf", v, f),
		ask("ForIn", named), ask("ForIn", named), ask("ForIn", named),
		ask("Call", ref(askerA), ref(o)), ask("Call", ref(askerA), ref(o)), ask("Call", ref(iterA-1-c.Intn(2)), c.value()), ask("Call", ref(makerA+c.Intn(3)), c.value()), ask("Call", ref(makerA+c.Intn(3)), ref(arrayA)))
}

// stir is one of the methods that change an object.
func stir(h *heap.Heap, c *chance) (string, error) {
	o, k, v, d := c.Intn(c.objects)+1, c.key(), c.value(), c.desc(functions())
	lengthy := pick(c, arrayA, mapped, runnerA, o)
	n, proto := num(float64(c.Intn(5))), c.proto()
	switch c.Intn(8) {
	case 0, 1:
		return said(h.Set(o, k, v, ref(o)))
	case 2:
		return said(h.Delete(o, k))
	case 3:
		return said(h.DefineOwnProperty(o, k, d))
	case 4:
		return said(h.SetPrototypeOf(o, proto))
	case 5:
		return said(h.DefineOwnProperty(o, k, api.Desc{Enumerable: d.Enumerable}))
	}
	return said(h.Set(lengthy, str("length"), n, ref(lengthy)))
}

// do does one thing with a heap, made up at random.
func do(h *heap.Heap, c *chance, by reading) (string, error) {
	x, n, v, name := c.call(h), c.Intn(60), c.value(), pick(c, "a", "b", "length")
	switch {
	case n == 0:
		return saidErrno(typed.Detach(h, buffer))
	case n == 1:
		return saidErrno(proxy.Revoke(h, proxyA+c.Intn(3)))
	case n < 5:
		return saidErrno(args.SetSlot(h, mapped, name, v))
	case n < 8:
		return saidErrno(namespace.Bind(h, module, name, v))
	case n < 25:
		return stir(h, c)
	}
	return play(x, h, by)
}

// play does an act, unless it is a call of what can be called no more.
func play(x act, h *heap.Heap, by reading) (string, error) {
	if x.name == "Call" && (!h.Callable(x.v[0]) || h.Check(x.v[1]) != api.OK) {
		return "", nil
	}
	return x.playedBy(h, by)
}

func saidErrno(e api.Errno) (string, error) {
	if e != api.OK {
		return "", e
	}
	return "", nil
}

// tally counts what calls come to.
type tally struct{ answers, throws, values, stops int }

func (n *tally) count(err error) {
	switch {
	case err == nil:
		n.answers++
	case isStop(err):
		n.stops++
	case sameError(err, typeError()):
		n.throws++
	default:
		n.values++
	}
}

func TestTwoReadings(t *testing.T) {
	t.Parallel()
	all := map[string]*tally{}
	for seed := range int64(1500) {
		first, second := byPackage(), byTwins()
		depth, capacity := pick(newChance(seed, 1), 1, 2, 3, 5, 20), pick(newChance(seed+1, 1), 65, mostWide)
		one, c := build(t, seed, capacity, depth+8, first, func() {})
		two, d := build(t, seed, capacity, depth+8, second, func() {})
		for i := range 20 {
			fuel := pick(c, c.Intn(12), c.Intn(300), 300)
			pick(d, d.Intn(12), d.Intn(300), 300)
			one.Refuel(fuel)
			two.Refuel(fuel)
			x, y := c.call(one), d.call(two)
			got, err := play(x, one, first)
			want, wrong := play(y, two, second)
			if got != want || !sameError(err, wrong) || one.Fuel() != two.Fuel() {
				t.Fatalf("seed %d, act %d, %v: %s, %v with %d left, want %s, %v with %d", seed, i, x, got, err, one.Fuel(), want, wrong, two.Fuel())
			}
			if all[x.name] == nil {
				all[x.name] = &tally{}
			}
			all[x.name].count(err)
			got, err = stir(one, c)
			want, wrong = stir(two, d)
			if got != want || !sameError(err, wrong) {
				t.Fatalf("seed %d, behind act %d, %v: %s, %v, want %s, %v", seed, i, x, got, err, want, wrong)
			}
			if a, b := now(one), now(two); !sameMoment(a, b) {
				t.Fatalf("seed %d, act %d, %v: %s; want %s", seed, i, x, changes(b.shapes, a.shapes), changes(a.shapes, b.shapes))
			}
		}
	}
	for _, name := range slices.Sorted(maps.Keys(byTwins())) {
		n := all[name]
		if name == "Refuel" {
			continue
		}
		plain := name == "Maker" || name == "Next" || name == "Result" // they call nobody, and throw nothing
		if n.answers < 300 || n.stops < 30 || !plain && n.throws < 20 {
			t.Errorf("%s: %+v", name, n)
		}
	}
}

// W7: with more fuel nothing is otherwise; with less it stops, having spent all.
func TestMoreFuel(t *testing.T) {
	t.Parallel()
	by, long := byPackage(), 0
	for seed := range int64(800) {
		plays := func(fuel int) (string, error, int, moment) {
			h, c := build(t, seed, mostWide, 12, by, func() {})
			h.Refuel(fuel)
			x := c.call(h)
			for !slices.Contains([]string{"List", "ForOf", "ForIn"}, x.name) {
				x = c.call(h)
			}
			s, err := play(x, h, by)
			return s, err, fuel - h.Fuel(), now(h)
		}
		s, err, spent, left := plays(1 << 9)
		if spent > 12 {
			long++
		}
		for fuel := range min(spent+3, 60) {
			got, wrong, less, after := plays(fuel)
			if fuel < spent && (got != "" || wrong != api.ErrFuel || less != fuel) {
				t.Fatalf("W7: seed %d, fuel %d of %d: %s, %v, %d spent", seed, fuel, spent, got, wrong, less)
			}
			if fuel >= spent && (got != s || !sameError(wrong, err) || less != spent || !sameMoment(after, left)) {
				t.Fatalf("W7: seed %d, fuel %d of %d: %s, %v, %d spent; want %s, %v", seed, fuel, spent, got, wrong, less, s, err)
			}
		}
	}
	if long < 50 {
		t.Errorf("%d acts were long", long)
	}
}
