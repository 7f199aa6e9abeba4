package args_test

// Arguments objects and acts at random: both readings answer the same, cost the same, and leave the same (13.1 to 13.5).

import (
	"fmt"
	"math/rand"
	"testing"

	"cameo/api"
	"cameo/heap"
)

// chance makes things up at random, over a heap of so many objects.
type chance struct {
	*rand.Rand
	objects int
}

func pick[T any](c *chance, l ...T) T { return l[c.Intn(len(l))] }

func (c *chance) ref() api.Value { return ref(1 + c.Intn(c.objects)) }

func (c *chance) value() api.Value {
	if c.Intn(3) == 0 {
		return c.ref()
	}
	return pick(c, undefined(), null(), yes(), no(), num(0), num(below0), num(nan), num(1), num(2), num(-2.5), text(""), text("0"), text("1"), text("a"), symbol(3))
}

func (c *chance) values() []api.Value {
	var l []api.Value
	for range c.Intn(5) {
		l = append(l, c.value())
	}
	return l
}

func (c *chance) name() string { return pick(c, "a", "a", "b", "c", "0", "") }

func (c *chance) names() []string {
	var l []string
	for range c.Intn(5) {
		l = append(l, c.name())
	}
	return l
}

func (c *chance) key() api.Key {
	return pick(c, str("0"), str("0"), str("0"), str("1"), str("1"), str("2"), str("3"), str("4"), str("length"), str("callee"), str("00"), str("a"), sym(3))
}

// desc is a descriptor, whose getter and setter are among some functions.
func (c *chance) desc(functions []int) api.Desc {
	tri := func() api.Tri { return api.Tri(c.Intn(3)) }
	d := api.Desc{Enumerable: tri(), Configurable: pick(c, api.Yes, api.Absent, tri())}
	if len(functions) > 0 && c.Intn(5) == 0 {
		f := func() api.Value {
			return pick(c, api.Value{}, undefined(), ref(pick(c, functions...)), ref(pick(c, functions...)))
		}
		d.Get, d.Set = f(), f()
		return d
	}
	d.Writable = pick(c, api.Yes, api.Absent, tri())
	if c.Intn(3) > 0 {
		d.Value = c.value()
	}
	return d
}

// op is an operation that does something with an object.
func (c *chance) op(functions []int) api.Op {
	o := api.Op{Code: pick(c, api.OGet, api.OSet, api.OSet, api.OGetBy, api.OSetBy, api.ODefine, api.ODefine, api.ODelete, api.OHas, api.OOwn, api.OPrevent, api.OCall, api.OReproto, api.OConst, api.OThis, api.OArg),
		To: pick(c, 0, 1, 2), A: c.Intn(4), B: c.Intn(4), C: c.Intn(4), Key: c.key(), Val: c.value(), Catch: c.Intn(2) == 0}
	if o.Code == api.OPrevent && c.Intn(3) > 0 {
		o.Code = api.OCall
	}
	if o.Code == api.ODefine {
		o.Desc = c.desc(functions)
	}
	return o
}

// body has objects in its registers: one of all, the receiver, and one that looks.
func (c *chance) body(functions []int) []api.Op {
	l := []api.Op{{Code: api.OConst, To: 0, Val: c.ref()}, {Code: api.OThis, To: 1}, {Code: api.OArg, To: 2}, {Code: api.OConst, To: 3, Val: ref(looker)}}
	for range c.Intn(6) {
		l = append(l, c.op(functions), api.Op{Code: api.OCall, To: 4, A: 3, B: c.Intn(2), C: 2})
	}
	return append(l, api.Op{Code: api.OReturn, A: c.Intn(3)})
}

// The objects that build makes: an ordinary one, a native function, two mapped arguments objects, one that is not, three functions, and two children of arguments objects.
const (
	looker  = 2
	last    = 10
	mostOf  = 14
	callees = 3
)

// build is a heap by one of the readings. What is made up hangs on the seed alone.
func build(t *testing.T, seed int64, depth int, by reading, look func()) (*heap.Heap, *chance) {
	t.Helper()
	c := &chance{rand.New(rand.NewSource(seed)), 2}
	h := newHeap(t, mostOf, 1<<20, depth)
	made(t, h, null())
	calls := 0
	addNative(t, h, func(h *heap.Heap, this api.Value, given []api.Value) (api.Value, error) {
		look()
		if calls++; this.Kind == api.KRef && calls%2 == 0 {
			by.setSlot(h, this.Id, "a", num(float64(calls)))
		}
		return this, nil
	})
	add := func(n int, err error) {
		t.Helper()
		if err != nil {
			t.Fatal(err)
		}
		c.objects = h.Len()
	}
	add(by.mapped(h, pick(c, null(), ref(1)), c.values(), c.names(), c.value()))
	add(by.mapped(h, pick(c, null(), ref(1), ref(3)), append(c.values(), c.value()), append([]string{"a"}, c.names()...), c.value()))
	add(by.unmapped(h, pick(c, null(), ref(1), ref(3)), c.values(), pick(c, undefined(), ref(looker))))
	functions := []int{looker}
	for range callees {
		f := fn(t, h, c.body(functions)...)
		add(f.Id, nil)
		functions = append(functions, f.Id)
	}
	for range 2 {
		n, err := h.Make(ref(pick(c, 3, 4, 4, 5)))
		add(n, err)
	}
	for range c.Intn(6) {
		h.DefineOwnProperty(1+c.Intn(c.objects), c.key(), c.desc(functions))
	}
	return h, c
}

// object is one of the heap, of which those with arguments are drawn most.
func (c *chance) object() int { return pick(c, 3, 4, 4, 5, 9, 10, 1+c.Intn(last)) }

// answer is what an act came to, told as a value.
func answer(ok bool, err error) (api.Value, error) {
	if err != nil {
		return api.Value{}, err
	}
	return api.Value{Kind: api.KBool, Bool: ok}, nil
}

func whole(d api.Desc, ok bool, err error) (api.Value, error) {
	if err != nil || !ok {
		return answer(ok, err)
	}
	return api.Value{Str: fmt.Sprint(d)}, nil
}

func all(l []api.Key, err error) (api.Value, error) {
	s := ""
	for _, k := range l {
		s += k.Str + string(rune('0'+k.Sym)) + " "
	}
	return api.Value{Str: s}, err
}

func wrong(e api.Errno) (api.Value, error) {
	if e == api.OK {
		return yes(), nil
	}
	return api.Value{}, e
}

func number(n int, err error) (api.Value, error) { return api.Value{Id: n}, err }

// do does one thing with a heap, made up at random. What is made anew is not asked afterwards, but may be somebody's value.
func do(h *heap.Heap, c *chance, by reading) (api.Value, error) {
	c.objects = min(c.objects, h.Len())
	o, k, v, w := c.object(), c.key(), c.value(), pick(c, c.value(), ref(c.object()))
	l, names, name, d := c.values(), c.names(), c.name(), c.desc([]int{looker, 6, 7, 8})
	proto, thrower := pick(c, null(), c.ref()), pick(c, undefined(), ref(looker), ref(7))
	switch c.Intn(24) {
	case 0, 1, 2:
		return h.Get(o, k, w)
	case 3, 4, 5:
		return answer(h.Set(o, k, v, pick(c, w, ref(o), ref(o))))
	case 6, 7, 8:
		return answer(h.DefineOwnProperty(o, k, d))
	case 9:
		return answer(h.Delete(o, k))
	case 10:
		return answer(h.HasProperty(o, k))
	case 11:
		return whole(h.GetOwnProperty(o, k))
	case 12:
		return all(h.OwnPropertyKeys(o))
	case 13:
		return answer(h.SetPrototypeOf(o, proto))
	case 14:
		if c.Intn(4) == 0 {
			return answer(h.PreventExtensions(o))
		}
		return answer(h.IsExtensible(o))
	case 15, 16:
		return wrong(by.setSlot(h, o, name, v))
	case 17:
		return number(by.mapped(h, proto, l, names, v))
	case 18:
		return number(by.unmapped(h, proto, l, thrower))
	}
	return h.Call(6+c.Intn(callees), w, l)
}

// 13.1 to 13.5
func TestTwoReadings(t *testing.T) {
	t.Parallel()
	var answers, stops, loosened, tiedStill int
	for seed := range int64(6000) {
		depth := pick(&chance{Rand: rand.New(rand.NewSource(seed))}, 1, 2, 3, 5, 20)
		first, second := byPackage(), byTwins()
		one, c := build(t, seed, depth, first, func() {})
		two, d := build(t, seed, depth, second, func() {})
		for n := range 15 {
			fuel := pick(c, c.Intn(5), c.Intn(150))
			pick(d, d.Intn(5), d.Intn(150))
			one.Refuel(fuel)
			two.Refuel(fuel)
			v, err := do(one, c, first)
			w, wrong := do(two, d, second)
			if !sameValue(v, w) || !sameError(err, wrong) || one.Fuel() != two.Fuel() {
				t.Fatalf("seed %d, act %d: %v, %v with %d left, want %v, %v with %d", seed, n, v, err, one.Fuel(), w, wrong, two.Fuel())
			}
			if got, want := first.moment(one), second.moment(two); !sameMoment(got, want) {
				t.Fatalf("seed %d, act %d: %v, want %v", seed, n, got, want)
			}
			if err == nil {
				answers++
			} else if _, ok := err.(api.Errno); ok {
				stops++
			}
		}
		for _, s := range slotsBelow(one, 4, few) {
			if s.index < 0 {
				loosened++
			} else {
				tiedStill++
			}
		}
	}
	if min(answers, stops, loosened, tiedStill) < 2000 {
		t.Errorf("%d answers, %d stops, %d loosened, %d tied", answers, stops, loosened, tiedStill)
	}
}

// W7: with more fuel nothing is otherwise; with less it stops, having spent all.
func TestMoreFuel(t *testing.T) {
	t.Parallel()
	by := byPackage()
	for seed := range int64(600) {
		play := func(fuel int) (api.Value, error, int, moment) {
			h, c := build(t, seed, 8, by, func() {})
			h.Refuel(fuel)
			v, err := do(h, c, by)
			return v, err, fuel - h.Fuel(), by.moment(h)
		}
		v, err, spent, left := play(1 << 20)
		for fuel := range min(spent+4, 120) {
			w, wrong, less, after := play(fuel)
			if fuel < spent && (w != (api.Value{}) || wrong != api.ErrFuel || less != fuel) {
				t.Fatalf("W7: seed %d, fuel %d of %d: %v, %v, %d spent", seed, fuel, spent, w, wrong, less)
			}
			if fuel >= spent && (!sameValue(w, v) || !sameError(wrong, err) || less != spent || !sameMoment(after, left)) {
				t.Fatalf("W7: seed %d, fuel %d of %d: %v, %v, %d spent; want %v, %v", seed, fuel, spent, w, wrong, less, v, err)
			}
		}
	}
}
