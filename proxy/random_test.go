package proxy_test

// Targets, handlers, proxies and acts at random: both readings answer the same, cost the same, and leave the same (19.1 to 19.12); and with more fuel nothing is otherwise.

import (
	"math/rand"
	"slices"
	"testing"

	"cameo/api"
	"cameo/args"
	"cameo/bound"
	"cameo/call"
	"cameo/heap"
	"cameo/proxy"
	"cameo/strobj"
	"cameo/typed"
)

// chance makes things up at random, over a heap of so many objects.
type chance struct {
	*rand.Rand
	objects int
}

func newChance(seed int64) *chance { return &chance{Rand: rand.New(rand.NewSource(seed))} }

func pick[T any](c *chance, l ...T) T { return l[c.Intn(len(l))] }

func (c *chance) ref() api.Value { return ref(1 + c.Intn(c.objects)) }

func (c *chance) plain() api.Value {
	return pick(c, undefined(), null(), yes(), no(), num(0), num(1), num(2), num(below0), num(nan), num(2.5), num(300), text(""), text("a"), text("0"), text("\xed\xa0\xbd"), symbol(1), symbol(2))
}

func (c *chance) value() api.Value {
	if c.Intn(3) == 0 {
		return c.ref()
	}
	return c.plain()
}

func (c *chance) values(most int) []api.Value {
	var l []api.Value
	for range c.Intn(most + 1) {
		l = append(l, c.value())
	}
	return l
}

func (c *chance) key() api.Key {
	return pick(c, str("a"), str("a"), str("a"), str("b"), str("b"), str("0"), str("1"), str("length"), sym(1), str("prototype"))
}

func (c *chance) tri() api.Tri { return pick(c, api.Absent, api.No, api.No, api.Yes, api.Yes) }

// lie is a descriptor, by functions that are there already.
func (c *chance) lie(functions []api.Value) api.Desc {
	f := func() api.Value { return pick(c, append(functions, undefined(), undefined(), api.Value{})...) }
	switch c.Intn(6) {
	case 0:
		return api.Desc{Get: f(), Set: f(), Enumerable: c.tri(), Configurable: c.tri()}
	case 1:
		return api.Desc{Enumerable: c.tri(), Configurable: c.tri()}
	}
	v := c.value()
	if c.Intn(4) == 0 {
		v = api.Value{}
	}
	return api.Desc{Value: v, Writable: c.tri(), Enumerable: c.tri(), Configurable: c.tri()}
}

// lair is a heap that is being made up, for one of the readings.
type lair struct {
	t    *testing.T
	h    *heap.Heap
	c    *chance
	read reading
	// What there is: all functions, objects that tell a descriptor, such that tell keys, handlers, and proxies.
	functions, tales, lists, handlers, proxies []api.Value
}

func (w *lair) add(n int, err error) api.Value {
	w.t.Helper()
	made(w.t, n, err)
	w.c.objects = w.h.Len()
	return ref(n)
}

// any is one of these, or anything, if there are none.
func (w *lair) any(l []api.Value) api.Value {
	if len(l) == 0 {
		return w.c.ref()
	}
	return pick(w.c, l...)
}

// answer is what a trap of a name may answer: mostly what fits.
func (w *lair) answer(trap string) api.Value {
	c := w.c
	if c.Intn(5) == 0 {
		return c.value()
	}
	switch trap {
	case "getPrototypeOf":
		return pick(c, null(), c.ref())
	case "getOwnPropertyDescriptor":
		return pick(c, undefined(), w.any(w.tales), w.any(w.tales), w.any(w.tales))
	case "ownKeys":
		return w.any(w.lists)
	case "construct":
		return c.ref()
	case "get", "apply":
		return c.value()
	}
	return pick(c, yes(), yes(), no(), num(1), undefined())
}

// honest is operations that do what a trap stands for, and answer what comes of it; the arguments lie in 0 to 3.
func honest(trap string) []api.Op {
	l := []api.Op{{Code: api.OArg, To: 0, A: 0}, {Code: api.OArg, To: 1, A: 1}, {Code: api.OArg, To: 2, A: 2}, {Code: api.OArg, To: 3, A: 3}}
	give := api.Op{Code: api.OReturn, A: 4}
	switch trap {
	case "getPrototypeOf":
		return append(l, api.Op{Code: api.OProto, To: 4, A: 0}, give)
	case "setPrototypeOf":
		return append(l, api.Op{Code: api.OReproto, To: 4, A: 0, B: 1}, give)
	case "isExtensible":
		return append(l, api.Op{Code: api.OExt, To: 4, A: 0}, give)
	case "preventExtensions":
		return append(l, api.Op{Code: api.OPrevent, To: 4, A: 0}, give)
	case "get":
		return append(l, api.Op{Code: api.OGetBy, To: 4, A: 0, B: 1}, give)
	case "set":
		return append(l, api.Op{Code: api.OSetBy, To: 4, A: 0, B: 1, C: 2}, give)
	case "has":
		return append(l, api.Op{Code: api.OHas, To: 4, A: 0, Key: str("a")}, give)
	case "deleteProperty":
		return append(l, api.Op{Code: api.ODelete, To: 4, A: 0, Key: str("a")}, give)
	case "apply":
		return append(l, api.Op{Code: api.OCall, To: 4, A: 0, B: 1, C: 2}, give)
	case "construct":
		return append(l, api.Op{Code: api.ONew, To: 4, A: 0, B: 1}, give)
	}
	return nil
}

// meddle is an operation that changes the object in the register 0.
func (w *lair) meddle() api.Op {
	c := w.c
	switch c.Intn(6) {
	case 0:
		return api.Op{Code: api.OPrevent, To: 5, A: 0, Catch: true}
	case 1:
		return api.Op{Code: api.ODelete, To: 5, A: 0, Key: c.key(), Catch: true}
	case 2:
		return api.Op{Code: api.OReproto, To: 5, A: 0, B: 1, Catch: true}
	case 3:
		return api.Op{Code: api.OSet, To: 5, A: 0, B: 2, Key: c.key(), Catch: true}
	}
	d := c.lie(w.functions)
	return api.Op{Code: api.ODefine, To: 5, A: 0, Key: c.key(), Desc: d, Catch: true}
}

// body is what a trap of a name does.
func (w *lair) body(trap string) []api.Op {
	c := w.c
	if l := honest(trap); l != nil && c.Intn(3) == 0 {
		return l
	}
	l := []api.Op{{Code: api.OArg, To: 0, A: 0}, {Code: api.OArg, To: 1, A: 1}, {Code: api.OArg, To: 2, A: 2}, {Code: api.OConst, To: 3, Val: w.answer(trap)}}
	for range c.Intn(3) {
		l = append(l, w.meddle())
	}
	if c.Intn(8) == 0 {
		return append(l, api.Op{Code: api.OThrow, A: c.Intn(4)})
	}
	return append(l, api.Op{Code: api.OReturn, A: pick(c, 3, 3, 3, 3, 0, 1, 2)})
}

// function is a new function, as it may stand for a trap.
func (w *lair) function(trap string) api.Value {
	w.t.Helper()
	l := w.body(trap)
	for !call.Sound(l) {
		l = w.body(trap)
	}
	v := w.add(call.New(w.h, null(), l, w.c.Intn(2) == 0))
	w.functions = append(w.functions, v)
	return v
}

// teller is a native that tells the truth, where operations cannot: the descriptor, or the keys, of its first argument.
func (w *lair) teller(trap string) api.Value {
	w.t.Helper()
	h := w.h
	v := w.add(addNative(w.t, h, func(_ api.Value, l []api.Value) (api.Value, error) {
		if len(l) == 0 || l[0].Kind != api.KRef {
			return undefined(), nil
		}
		if trap == "ownKeys" {
			keys, err := h.OwnPropertyKeys(l[0].Id)
			if err != nil {
				return api.Value{}, err
			}
			var list []api.Value
			for _, k := range keys {
				list = append(list, keyValue(k))
			}
			n, err := arrayOf(h, list)
			return refOr(n, err)
		}
		k := str("a")
		if len(l) > 1 && l[1].Kind == api.KSym {
			k = sym(l[1].Id)
		} else if len(l) > 1 && l[1].Kind == api.KStr {
			k = str(l[1].Str)
		}
		d, ok, err := h.GetOwnProperty(l[0].Id, k)
		if !ok || err != nil {
			return undefined(), err
		}
		return ended(func() api.Value { return second{h: h}.fromDescriptor(d) })
	}), nil)
	w.functions = append(w.functions, v)
	return v
}

func refOr(n int, err error) (api.Value, error) {
	if err != nil {
		return api.Value{}, err
	}
	return ref(n), nil
}

// player is a native in which an act is played, of what it is given or of something else; what it throws is thrown.
func (w *lair) player() api.Value {
	w.t.Helper()
	x, answer := w.act(), w.c.value()
	v := w.add(addNative(w.t, w.h, func(_ api.Value, given []api.Value) (api.Value, error) {
		y := x
		if len(given) > 0 && given[0].Kind == api.KRef && x.name != "Revoke" {
			y = y.of(given[0].Id)
		}
		if _, err := w.read(w.h, y); err != nil {
			return api.Value{}, err
		}
		return answer, nil
	}), nil)
	w.functions = append(w.functions, v)
	return v
}

// things makes objects of every class that the layers below have.
func (w *lair) things() {
	w.t.Helper()
	h, c, t := w.h, w.c, w.t
	for n := range 4 {
		proto := null()
		if n > 0 && c.Intn(2) == 0 {
			proto = c.ref()
		}
		w.add(h.Make(proto))
	}
	f := w.function("apply")
	w.function("construct")
	w.add(arrayOf(h, c.values(3)))
	w.add(args.Mapped(h, null(), c.values(3), []string{"x", "y"}, f))
	w.add(args.Unmapped(h, null(), c.values(3), f))
	b := w.add(typed.Buffer(h, null(), 8))
	w.add(typed.New(h, null(), b.Id, pick(c, api.TInt8, api.TFloat32), 0, 2))
	w.add(strobj.New(h, null(), "ab"))
	n, err := bound.Bind(h, pick(c, w.functions...).Id, c.value(), c.values(2))
	w.functions = append(w.functions, w.add(n, err))
	for range 4 {
		l, _ := fields(c.lie(w.functions))
		w.tales = append(w.tales, w.add(ordinary(t, h, null(), l...), nil))
		var keys []api.Value
		for range c.Intn(4) {
			keys = append(keys, keyValue(c.key()))
		}
		w.lists = append(w.lists, w.add(arrayOf(h, keys)))
	}
	// Some of what they tell a function tells, which may change something.
	for _, o := range []int{pick(c, w.tales...).Id, pick(c, w.lists...).Id} {
		h.DefineOwnProperty(o, pick(c, str("enumerable"), str("configurable"), str("value"), str("0")), accessor(w.function(pick(c, "isExtensible", "get")), undefined(), api.Yes, api.Yes))
	}
}

// handler is an object with some traps.
func (w *lair) handler() api.Value {
	w.t.Helper()
	c := w.c
	o := w.add(ordinary(w.t, w.h, pick(c, append(w.handlers, null())...)), nil)
	for _, s := range proxy.Traps() {
		var v api.Value
		switch c.Intn(9) {
		case 0, 1, 2, 3:
			continue
		case 4:
			v = pick(c, undefined(), null(), num(1), w.any(w.functions), w.any(w.functions))
		case 5:
			if s == "ownKeys" || s == "getOwnPropertyDescriptor" {
				v = w.teller(s)
			} else {
				v = w.player()
			}
		default:
			v = w.function(s)
		}
		d := open(v)
		if c.Intn(8) == 0 && w.h.Callable(v) {
			d = accessor(v, undefined(), api.Yes, api.Yes)
		}
		lay(w.t, w.h, o.Id, is(s, d))
	}
	w.handlers = append(w.handlers, o)
	return o
}

// build is a heap. What is made up hangs on the seed alone.
func build(t *testing.T, seed int64, depth int, read reading) *lair {
	t.Helper()
	w := &lair{t: t, h: newHeap(t, 200, 1<<20, depth), c: newChance(seed), read: read}
	c := w.c
	w.things()
	for range 12 + c.Intn(8) {
		w.h.DefineOwnProperty(1+c.Intn(13), c.key(), c.lie(w.functions))
	}
	for range c.Intn(4) {
		w.h.PreventExtensions(1 + c.Intn(13))
	}
	for range 3 {
		w.handler()
	}
	for range 5 {
		target := ref(1 + c.Intn(13))
		if c.Intn(3) == 0 {
			target = pick(c, slices.Concat(w.proxies, w.handlers, w.functions)...)
		}
		if _, err := w.read(w.h, news(target, pick(c, append(w.handlers, w.handlers[0], c.ref())...))); err != nil {
			t.Fatal(err)
		}
		w.proxies = append(w.proxies, w.add(w.h.Len(), nil))
	}
	for range 6 {
		w.h.Refuel(10)
		w.h.SetPrototypeOf(1+c.Intn(13), pick(c, append(w.proxies, null(), c.ref())...))
		if p := pick(c, w.proxies...); c.Intn(2) == 0 {
			w.h.DefineOwnProperty(1+c.Intn(13), c.key(), open(p))
		}
	}
	w.h.Refuel(1 << 20)
	return w
}

// broke is the act with something wrong in it.
func (c *chance) broke(x act) act {
	wrong := pick(c, append(broken(), ref(250), ref(65536))...)
	switch c.Intn(6) {
	case 0:
		x.v = wrong
	case 1:
		x.receiver = wrong
	case 2:
		x.o = pick(c, 0, -1, 250, 65536, 1<<40)
	case 3:
		x.args = append(slices.Clone(x.args), wrong)
	case 4:
		x.k = pick(c, str("\xff"), sym(-1), sym(65537), api.Key{Str: "a", Sym: 1})
	case 5:
		x.d = pick(c, api.Desc{Value: wrong}, api.Desc{Value: num(1), Get: undefined()}, api.Desc{Writable: 7}, api.Desc{Get: num(1)})
	}
	return x
}

// methods is the names of the thirteen, in the order of their traps.
func methods() []string {
	return []string{"GetPrototypeOf", "SetPrototypeOf", "IsExtensible", "PreventExtensions", "GetOwnProperty", "DefineOwnProperty", "HasProperty", "Get", "Set", "Delete", "OwnPropertyKeys", "Call", "Construct"}
}

// act is one of them, mostly of a proxy.
func (w *lair) act() act {
	c := w.c
	x := act{name: pick(c, append(methods(), "GetOwnProperty", "OwnPropertyKeys", "DefineOwnProperty")...), k: c.key(), d: c.lie(w.functions), v: c.value(), receiver: c.value(), args: c.values(3)}
	if c.Intn(25) == 0 {
		x.name = pick(c, "New", "Revoke", "Parts", "New")
	}
	x.o = pick(c, w.any(w.proxies), w.any(w.proxies), w.any(w.proxies), c.ref()).Id
	x.target = pick(c, x.o, x.o, w.any(w.functions).Id)
	switch x.name {
	case "SetPrototypeOf":
		x.v = pick(c, null(), c.ref(), c.ref())
	case "New":
		x.v, x.receiver = c.ref(), pick(c, w.any(w.handlers), c.value())
	case "Get", "Set":
		x.receiver = pick(c, x.receiver, ref(x.o), c.ref())
	case "Call":
		x.o = w.any(w.able(w.h.Callable)).Id
	case "Construct":
		x.o = w.any(w.able(w.h.Constructor)).Id
		x.target = pick(c, x.o, x.o, w.any(w.functions).Id)
	}
	return x
}

// able is the proxies that can do that.
func (w *lair) able(can func(v api.Value) bool) []api.Value {
	return slices.DeleteFunc(slices.Clone(w.proxies), func(v api.Value) bool { return !can(v) })
}

// came is how acts of one name have ended.
type came struct{ answers, throws, stops int }

func (m *came) count(err error) {
	switch err.(type) {
	case nil:
		m.answers++
	case *api.Thrown:
		m.throws++
	default:
		m.stops++
	}
}

// differs is the number of the first object that is another one; 0, if none is.
func differs(one, two []api.Shape) int {
	for i := range max(len(one), len(two)) {
		if i >= len(one) || i >= len(two) || !sameShape(one[i], two[i]) {
			return i + 1
		}
	}
	return 0
}

// agree holds what both readings say of all objects' parts against each other.
func agree(t *testing.T, seed int64, one, two *heap.Heap) {
	t.Helper()
	for o := range one.Len() + 2 {
		v, err := byPackage(one, tells(o))
		w, wrong := bySecond(two, tells(o))
		if v != w || err != wrong || one.Callable(ref(o)) != two.Callable(ref(o)) || one.Constructor(ref(o)) != two.Constructor(ref(o)) {
			t.Fatalf("seed %d: %d: %s, %v; want %s, %v", seed, o, v, err, w, wrong)
		}
	}
}

func TestTwoReadings(t *testing.T) {
	t.Parallel()
	met := map[string]*came{"New": {}, "Revoke": {}, "Parts": {}}
	for _, s := range methods() {
		met[s] = &came{}
	}
	for seed := range int64(2500) {
		depth := []int{20, 8, 5, 3, 20, 2, 12, 1}[seed%8]
		one, two := build(t, seed, depth, byPackage), build(t, seed, depth, bySecond)
		c := newChance(-seed - 1)
		one.c = c // what is done is made up once, for both
		for n := range 25 {
			c.objects = one.h.Len()
			x := one.act()
			if c.Intn(20) == 0 {
				x = c.broke(x)
			}
			fuel := pick(c, c.Intn(12), c.Intn(60), 400)
			one.h.Refuel(fuel)
			two.h.Refuel(fuel)
			v, err := byPackage(one.h, x)
			w, wrong := bySecond(two.h, x)
			if v != w || !sameError(err, wrong) || one.h.Fuel() != two.h.Fuel() {
				t.Fatalf("seed %d, act %d: %v: %s, %v with %d left, want %s, %v with %d", seed, n, x, v, err, one.h.Fuel(), w, wrong, two.h.Fuel())
			}
			if o := differs(one.h.Shapes(), two.h.Shapes()); o != 0 {
				t.Fatalf("seed %d, act %d: %v: %d is another one", seed, n, x, o)
			}
			met[x.name].count(err)
		}
		agree(t, seed, one.h, two.h)
	}
	for _, s := range methods() {
		if m := met[s]; m.answers < 400 || m.throws < 150 || m.stops < 500 {
			t.Errorf("%s: %v", s, *m)
		}
	}
	if met["New"].answers < 500 || met["Revoke"].answers < 300 || met["Parts"].answers < 300 {
		t.Errorf("%v %v %v", *met["New"], *met["Revoke"], *met["Parts"])
	}
}

// W7: what ends without running out of fuel ends just so with more.
func TestMoreFuel(t *testing.T) {
	t.Parallel()
	ran := 0
	for seed := range int64(1200) {
		depth := []int{20, 8, 3}[seed%3]
		one, two := build(t, seed, depth, byPackage), build(t, seed, depth, byPackage)
		c := newChance(seed + 1<<32)
		one.c = c
		for n := range 15 {
			c.objects = one.h.Len()
			x, fuel, more := one.act(), c.Intn(80), 1+c.Intn(500)
			one.h.Refuel(fuel)
			v, err := x.played(one.h)
			if err == api.ErrFuel {
				break // what is there now is no beginning that both have
			}
			two.h.Refuel(fuel + more)
			w, wrong := x.played(two.h)
			if v != w || !sameError(err, wrong) || two.h.Fuel() != one.h.Fuel()+more || differs(one.h.Shapes(), two.h.Shapes()) != 0 {
				t.Fatalf("W7: seed %d, act %d: %v with fuel %d: %s, %v; with %d more %s, %v", seed, n, x, fuel, v, err, more, w, wrong)
			}
			ran++
		}
	}
	if ran < 5000 {
		t.Errorf("%d acts", ran)
	}
}
