package bound_test

// 18.7, 18.8, 9.13, W2, W3: what follows, over functions, bindings and acts drawn at random.

import (
	"slices"
	"testing"

	"cameo/api"
	"cameo/bound"
	"cameo/heap"
	"cameo/invariant"
	"cameo/ordinary"
)

// 18.7: what is bound twice, or more often, calls its target with the receiver of the first time, and the arguments of each time behind those of the times ahead.
func TestFirstTimeFirst(t *testing.T) {
	t.Parallel()
	c := newChance(7)
	for range 2000 {
		h := newHeap(t, 20, 1000, 20)
		var this api.Value
		var args []api.Value
		f := counting(t, h, &this, &args)
		made(t, h, null())
		times := 2 + c.Intn(8)
		var receiver api.Value
		var all []api.Value
		b := f
		for n := range times {
			c.objects = h.Len()
			v, l := c.value(), c.values(4)
			if n == 0 {
				receiver = v
			}
			all = append(all, l...)
			b = bind(t, h, b, v, l...)
		}
		last := c.values(4)
		all = append(all, last...)
		calls(b, c.value(), last...).is(t, h, times+1, ref(1), nil)
		if !sameValue(this, receiver) || !slices.EqualFunc(args, all, sameValue) {
			t.Fatalf("18.7: %v, %v; want %v, %v", this, args, receiver, all)
		}
		constructs(b, b, last...).is(t, h, times+1, 1, nil)
		if this != ref(f) || !slices.EqualFunc(args, all, sameValue) {
			t.Fatalf("18.7: %v, %v; want %v", this, args, all)
		}
	}
}

// 18.7: what is constructed by a bound function is an instance of its target, and of it, and of all that are bound to that target; and of no other.
func TestConstructedIsInstance(t *testing.T) {
	t.Parallel()
	c := newChance(8)
	for range 2000 {
		h := newHeap(t, 60, 5000, 20)
		// Each of these has a prototype of its own; what is bound is bound to one of them.
		origin := map[int]int{}
		var all []int
		for range 1 + c.Intn(3) {
			f, base := class(t, h), made(t, h, null())
			lay(t, h, f, has("prototype", ref(base)))
			origin[f], all = f, append(all, f)
		}
		for range 1 + c.Intn(8) {
			f := pick(c, all...)
			b := bind(t, h, f, undefined(), values(0, c.Intn(3))...)
			origin[b], all = origin[f], append(all, b)
		}
		for range 5 {
			b := pick(c, all...)
			o, err := h.Construct(b, nil, b)
			if err != nil {
				t.Fatal(err)
			}
			for _, f := range all {
				is, err := bound.InstanceOf(h, ref(o), ref(f))
				has, wrong := bound.HasInstance(h, ref(f), ref(o))
				if want := origin[f] == origin[b]; is != want || has != want || err != nil || wrong != nil {
					t.Fatalf("18.7: constructed by %d, of %d: %v, %v, %v, %v", b, f, is, err, has, wrong)
				}
			}
		}
	}
}

// 18.6: of what is bound HasInstance answers, costs and leaves what InstanceOf of its target does, whatever runs.
func TestTargetStandsForIt(t *testing.T) {
	t.Parallel()
	met := 0
	for seed := range int64(3000) {
		one, c := build(t, seed, 6, byPackage)
		two, _ := build(t, seed, 6, byPackage)
		v := c.value()
		for b := range one.Len() + 1 {
			f, _, _, e := bound.Target(one, b)
			if e != api.OK {
				continue
			}
			fuel := pick(c, c.Intn(6), 60)
			one.Refuel(fuel)
			two.Refuel(fuel)
			x, err := bound.HasInstance(one, ref(b), v)
			y, wrong := bound.InstanceOf(two, v, ref(f))
			if x != y || !sameError(err, wrong) || one.Fuel() != two.Fuel() || !sameShapes(one.Shapes(), two.Shapes()) {
				t.Fatalf("18.6: seed %d, %d: %v, %v with %d left; %v, %v with %d", seed, b, x, err, one.Fuel(), y, wrong, two.Fuel())
			}
			met++
		}
	}
	if met < 3000 {
		t.Errorf("no more than %d met", met)
	}
}

// 18.8: what Target answers is the same ever after, and two moments break no rule; shapes are sound, whatever is done.
func TestSameEverAfter(t *testing.T) {
	t.Parallel()
	for seed := range int64(2000) {
		h, c := build(t, seed, 6, byPackage)
		moments := [][]api.Shape{h.Shapes()}
		first := map[int]string{}
		for range 12 {
			remember(t, h, first)
			c.objects = h.Len()
			h.Refuel(100)
			x := c.act()
			x.played(h)
			sound(t, h, moments, x)
			moments = append(moments, h.Shapes())
		}
		remember(t, h, first)
	}
}

// remember holds what Target tells against what it told first.
func remember(t *testing.T, h *heap.Heap, first map[int]string) {
	t.Helper()
	for o := range h.Len() + 1 {
		s, err := targetOf(o).played(h)
		if was, ok := first[o]; ok && (was != s || err != nil) {
			t.Fatalf("18.8: %d: %s, %v; it was %s", o, s, err, was)
		}
		if err == nil {
			first[o] = s
		}
	}
}

func sound(t *testing.T, h *heap.Heap, moments [][]api.Shape, x act) {
	t.Helper()
	l := h.Shapes()
	if at := ordinary.Sound(l); at != -1 {
		t.Fatalf("W2: behind %v %d is not sound: %v", x, at+1, l[at])
	}
	for _, before := range moments {
		if o, rule := invariant.Broken(before, l); rule != 0 {
			t.Fatalf("18.8: behind %v %d breaks the rule %d: %v became %v", x, o, rule, before[o-1], l[o-1])
		}
	}
}

// 18.8: the methods of a bound function that are ordinary keep to the rules, too: sealed and frozen it stays so.
func TestFrozen(t *testing.T) {
	h := newHeap(t, 9, 1000, 9)
	f := giving(t, h, num(3))
	b := bind(t, h, f, num(1), num(2))
	for _, k := range []string{"length", "name"} {
		if ok, err := h.DefineOwnProperty(b, str(k), api.Desc{Configurable: api.No}); !ok || err != nil {
			t.Fatal(err)
		}
	}
	if ok, err := h.PreventExtensions(b); !ok || err != nil {
		t.Fatal(err)
	}
	before := h.Shapes()
	if !invariant.Frozen(before[b-1]) {
		t.Errorf("%v", before[b-1])
	}
	for _, x := range []act{{name: "Define", f: b, k: str("name"), d: open(num(1))}, {name: "Set", f: b, k: str("a"), v: num(1)}, {name: "Delete", f: b, k: str("length")}, {name: "SetPrototypeOf", f: b, v: ref(f)}} {
		if s, err := x.played(h); s != "false" || err != nil {
			t.Errorf("18.8: %s: %s, %v", x.name, s, err)
		}
	}
	if !sameShapes(h.Shapes(), before) {
		t.Errorf("18.8: %v", h.Shapes())
	}
	calls(b, null()).is(t, h, 4, num(3), nil)
}
