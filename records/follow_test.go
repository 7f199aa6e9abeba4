package records_test

// 17.7, 9.13, W2, W3: what follows, over descriptors, objects and lists drawn at random.

import (
	"slices"
	"testing"

	"cameo/api"
	"cameo/array"
	"cameo/desc"
	"cameo/heap"
	"cameo/invariant"
	"cameo/ordinary"
	"cameo/records"
)

// 17.7: of a descriptor To of From is it: of every sort, its getters being such that can be called. It costs six, and one for each field that is there.
func TestToOfFrom(t *testing.T) {
	values := append(plain(), ref(1), ref(2), ref(zooLast))
	for _, d := range descs(values, []api.Value{undefined(), ref(2), ref(3)}) {
		h := zoo(t, 1)
		o, err := records.From(h, d, null())
		if err != nil {
			t.Fatal(err)
		}
		h.Refuel(20)
		to(o).is(t, h, 6+len(laid(d)), d, nil)
		back, err := records.To(h, ref(o))
		if !sameDesc(back, d) || err != nil {
			t.Errorf("17.7: %v became %v, %v", d, back, err)
		}
	}
	// One whose getter cannot be called becomes an object, and no descriptor again.
	h := zoo(t, 1)
	h.Refuel(20)
	from(api.Desc{Get: ref(1)}, null()).is(t, h, 0, zooLast+1, nil)
	to(zooLast+1).is(t, h, 6, nil, typeError())
}

// 17.7: of an object whose To answers, From of that has the same To; whatever the object is.
func TestFromOfTo(t *testing.T) {
	t.Parallel()
	answers, fields := 0, 0
	for seed := range int64(6000) {
		h, c := build(t, seed, 6, byPackage)
		for range 4 {
			h.Refuel(200)
			d, err := records.To(h, c.ref())
			if err != nil {
				if d != (api.Desc{}) {
					t.Fatalf("R2: seed %d: %v, %v", seed, d, err)
				}
				continue
			}
			if desc.Check(d) != api.OK {
				t.Fatalf("17.2: seed %d: %v", seed, d)
			}
			o, err := records.From(h, d, null())
			if err != nil {
				continue // there is no room
			}
			back, err := records.To(h, ref(o))
			if err == api.ErrFuel {
				continue
			}
			if !sameDesc(back, d) || err != nil {
				t.Fatalf("17.7: seed %d: %v became %v, %v", seed, d, back, err)
			}
			answers++
			fields += len(laid(d))
		}
	}
	if answers < 3000 || fields < 3000 {
		t.Errorf("%d answers with %d fields", answers, fields)
	}
}

// 17.7: the list of an object with the own indices 0 to n - 1 and the length n, all data, is their values, and costs n + 1.
func TestListOfData(t *testing.T) {
	t.Parallel()
	c := newChance(5)
	for i := range 300 {
		h := newHeap(t, 3, 2000, 1)
		c.objects = 1
		base := made(t, h, null())
		lay(t, h, base, at(0), open(text("hidden")))
		n := pick(c, c.Intn(5), c.Intn(40), c.Intn(1025))
		l := make([]api.Value, n)
		for j := range l {
			l[j] = c.value()
		}
		var o int
		var err error
		switch i % 3 {
		case 0:
			o, err = array.Of(h, ref(base), l)
		default:
			o, err = h.Make(ref(base))
			for _, j := range c.Perm(n) {
				flags := func() api.Tri { return pick(c, api.Yes, api.No, api.Absent) }
				lay(t, h, o, at(j), api.Desc{Value: l[j], Writable: flags(), Enumerable: flags(), Configurable: flags()})
			}
			lay(t, h, o, str("length"), api.Desc{Value: num(float64(n))})
		}
		if err != nil {
			t.Fatal(err)
		}
		got, err := records.List(h, ref(o))
		if !slices.EqualFunc(got, l, sameValue) || err != nil || h.Fuel() != 2000-n-1 {
			t.Fatalf("17.7: %v, %v, %d spent; want %v", got, err, 2000-h.Fuel(), l)
		}
	}
}

// 17.3: Length is that of the list, Keys are its members, where all of these answer and nothing changes on the way.
func TestListsAgree(t *testing.T) {
	t.Parallel()
	met := 0
	for seed := range int64(4000) {
		h, c := build(t, seed, 6, byPackage)
		for range 4 {
			v := c.ref()
			before := h.Shapes()
			h.Refuel(300)
			n, err := records.Length(h, v)
			l, wrong := records.List(h, v)
			if err != nil || wrong != nil || !sameShapes(h.Shapes(), before) {
				continue
			}
			met++
			if n != int64(len(l)) {
				t.Fatalf("17.3: seed %d: %d, %v", seed, n, l)
			}
			k, err := records.Keys(h, v)
			for i, x := range l {
				if fits := x.Kind == api.KStr || x.Kind == api.KSym; err == nil && (!fits || k[i] != (api.Key{Str: x.Str, Sym: x.Id})) {
					t.Fatalf("17.3: seed %d: %v of %v", seed, k, l)
				}
			}
			if err == nil && len(k) != len(l) {
				t.Fatalf("17.3: seed %d: %v of %v", seed, k, l)
			}
		}
	}
	if met < 3000 {
		t.Errorf("no more than %d met", met)
	}
}

// behindAccessor tells whether the first object of a chain that has a property has it as an accessor: then a setter may do what it likes.
func behindAccessor(h *heap.Heap, o int, k api.Key) bool {
	chain, _ := ordinary.Chain(h, o)
	for _, p := range append([]int{o}, chain...) {
		if d := lying(h, p, k); d != (api.Desc{}) {
			return d.Get.Kind != api.KNone
		}
	}
	return false
}

// 17.5: behind a Create or Put that answers, the object has the property; behind a Remove it has none of its own.
func TestDone(t *testing.T) {
	t.Parallel()
	met := map[string]int{}
	for seed := range int64(4000) {
		h, c := build(t, seed, 6, byPackage)
		for range 6 {
			o, k := 1+c.Intn(ordinaries), c.key()
			v := c.told(k)
			x := pick(c, create(o, k, v), put(o, k, v), remove(o, k))
			setter := behindAccessor(h, o, k)
			h.Refuel(200)
			if _, err := x.played(h); err != nil {
				continue
			}
			met[x.name]++
			d := lying(h, o, k)
			switch {
			case x.name == "Create" && !sameDesc(d, open(v)), x.name == "Remove" && d != (api.Desc{}):
				t.Fatalf("17.5: seed %d: %v: %v", seed, x, d)
			case x.name == "Put" && !setter && !sameValue(d.Value, v):
				t.Fatalf("17.5: seed %d: %v: %v", seed, x, d)
			}
		}
	}
	for _, s := range []string{"Create", "Put", "Remove"} {
		if met[s] < 2000 {
			t.Errorf("%s: %d", s, met[s])
		}
	}
}

// 9.13, W2, W3: whatever is done, shapes are sound, and what is fixed stays so.
func TestAlwaysSound(t *testing.T) {
	t.Parallel()
	for seed := range int64(1500) {
		h, c := build(t, seed, 6, byPackage)
		moments := [][]api.Shape{h.Shapes()}
		for range 10 {
			c.objects = h.Len()
			h.Refuel(100)
			x := c.act()
			x.played(h)
			sound(t, h, moments, x)
			moments = append(moments, h.Shapes())
		}
	}
}

func sound(t *testing.T, h *heap.Heap, moments [][]api.Shape, x act) {
	t.Helper()
	l := h.Shapes()
	if at := ordinary.Sound(l); at != -1 {
		t.Fatalf("W2: behind %v %d is not sound: %v", x, at+1, l[at])
	}
	for _, before := range moments {
		if o, rule := invariant.Broken(before, l); rule != 0 {
			t.Fatalf("W3: behind %v %d breaks the rule %d: %v became %v", x, o, rule, before[o-1], l[o-1])
		}
	}
}
