package integrity_test

// 21.5: what is hardened, in which order, and what that costs.

import (
	"fmt"
	"math/rand"
	"slices"
	"testing"

	"cameo/api"
	"cameo/array"
	"cameo/bound"
	"cameo/heap"
	"cameo/proxy"
)

// graph is a heap in which each object has a prototype and properties; it must be hardened from the object 1 on.
type graph struct {
	name string
	cast cast
	want []int
}

// under is an ordinary object with a prototype and properties.
func under(proto api.Value, props ...api.Prop) api.Shape {
	return api.Shape{Class: api.COrdinary, Proto: proto, Extensible: true, Props: props}
}

func graphs() []graph {
	n := null()
	return []graph{
		{"nothing more", cast{under(n), under(n)}, []int{1}},
		{"itself", cast{under(n, has("a", ref(1)), has("b", ref(1)), is("c", accessor(ref(1), ref(1), "c")))}, []int{1}},
		{"a prototype", cast{under(ref(3)), under(n), under(n)}, []int{1, 3}},
		{"prototypes", cast{under(ref(3)), under(n), under(ref(4)), under(ref(2))}, []int{1, 3, 4, 2}},
		{"a value", cast{under(n, has("a", ref(2))), under(n)}, []int{1, 2}},
		{"values that are none", cast{under(n, has("a", num(2)), has("b", symbol(2)), has("c", text("#2")), has("d", undefined()), has("e", null())), under(n)}, []int{1}},
		{"a getter", cast{under(n, is("a", accessor(ref(2), undefined(), ""))), under(n)}, []int{1, 2}},
		{"a setter", cast{under(n, is("a", accessor(undefined(), ref(2), "e"))), under(n)}, []int{1, 2}},
		{"the getter ahead of the setter", cast{under(n, is("a", accessor(ref(3), ref(2), "c"))), under(n), under(n)}, []int{1, 3, 2}},
		{"the prototype ahead of values", cast{under(ref(4), has("a", ref(2)), has("b", ref(3))), under(n), under(n), under(n)}, []int{1, 4, 2, 3}},
		{"indices ahead of strings ahead of symbols", cast{under(n, marked(1, data(ref(2), "")), has("a", ref(3)), has("1", ref(4)), has("0", ref(5))), under(n), under(n), under(n), under(n)}, []int{1, 5, 4, 3, 2}},
		{"those that are near first", cast{under(n, has("a", ref(2)), has("b", ref(3))), under(ref(4), has("a", ref(5))), under(ref(6), has("a", ref(2))), under(n), under(n, has("a", ref(1))), under(n)}, []int{1, 2, 3, 4, 5, 6}},
		{"a ring", cast{under(n, has("next", ref(2))), under(n, has("next", ref(3))), under(n, has("next", ref(4))), under(n, has("next", ref(1)))}, []int{1, 2, 3, 4}},
		{"a ring of prototypes and values", cast{under(ref(2)), under(ref(3)), under(n, has("back", ref(1)), has("on", ref(2)))}, []int{1, 2, 3}},
		{"what leads in is not led to", cast{under(n), under(ref(1), has("a", ref(1)))}, []int{1}},
		{"each once", cast{under(ref(2), has("a", ref(2)), has("b", ref(3)), has("c", ref(3))), under(ref(3), has("a", ref(3))), under(n, has("a", ref(1)), has("b", ref(2)))}, []int{1, 2, 3}},
		{"what is fixed already", cast{{Class: api.COrdinary, Proto: ref(2), Props: []api.Prop{is("a", data(ref(3), ""))}}, bare(false), bare(false, is("a", data(ref(2), "")))}, []int{1, 2, 3}},
	}
}

func TestGraphs(t *testing.T) {
	for _, x := range graphs() {
		p := plotted(x.cast, harden(ref(1)))
		if fmt.Sprint(p.want) != fmt.Sprint(x.want) {
			t.Errorf("21.5: %s: %v; want %v", x.name, p.want, x.want)
		}
		p.holds(t, harden(ref(1)), ends()[:2])
		cost := 0
		for _, o := range x.want {
			cost += 4 + 3*len(x.cast[o-1].Props)
		}
		if cost != len(p.lines) {
			t.Errorf("21.5: %s costs %d; want %d", x.name, len(p.lines), cost)
		}
	}
}

// drawn is objects that lead to each other at random. Prototypes lead to objects with lesser numbers, or to greater ones, so that they go round nowhere.
func drawn(r *rand.Rand, n int) cast {
	down := r.Intn(2) == 0
	any := func() api.Value {
		if r.Intn(3) == 0 {
			return []api.Value{undefined(), num(1), text("x"), symbol(1)}[r.Intn(4)]
		}
		return ref(1 + r.Intn(n))
	}
	var c cast
	for o := 1; o <= n; o++ {
		proto := null()
		if lower := o - 1; down && lower > 0 && r.Intn(2) == 0 {
			proto = ref(1 + r.Intn(lower))
		} else if more := n - o; !down && more > 0 && r.Intn(2) == 0 {
			proto = ref(o + 1 + r.Intn(more))
		}
		s := api.Shape{Class: api.COrdinary, Proto: proto, Extensible: r.Intn(3) > 0}
		all := keys()
		r.Shuffle(len(all), func(i, j int) { all[i], all[j] = all[j], all[i] })
		for _, k := range all[:r.Intn(4)] {
			flags := []string{"", "w", "e", "c", "we", "wc", "ec", "wec"}[r.Intn(8)]
			if r.Intn(4) == 0 {
				get, set := any(), any()
				if get.Kind != api.KRef {
					get = undefined()
				}
				if set.Kind != api.KRef {
					set = undefined()
				}
				s.Props = append(s.Props, api.Prop{Key: k, Desc: accessor(get, set, flags)})
			} else {
				s.Props = append(s.Props, api.Prop{Key: k, Desc: data(any(), flags)})
			}
		}
		c = append(c, s)
	}
	return c
}

// Objects at random: each step, the order of the list, and where fuel ends, or a step otherwise.
func TestGraphsAtRandom(t *testing.T) {
	t.Parallel()
	r := rand.New(rand.NewSource(21))
	long := 0
	for i := range 1500 {
		c := drawn(r, 1+r.Intn(9))
		x := harden(ref(1 + r.Intn(len(c))))
		p := plotted(c, x)
		if len(p.want.([]int)) > 4 {
			long++
		}
		if i%10 == 0 {
			p.holds(t, x, ends()[r.Intn(9):][:1])
		} else {
			p.comes(t, x, len(p.lines), len(p.lines), nil, nil)
		}
		fixed := p.now()
		q := plotted(fixed, x)
		if !slices.Equal(q.want.([]int), p.want.([]int)) || !sameShapes(q.now(), fixed) {
			t.Fatalf("21.6: hardened once more: %v, %v; want %v, %v", q.want, q.now(), p.want, fixed)
		}
		q.comes(t, x, len(q.lines), len(q.lines), nil, nil)
	}
	if long < 300 {
		t.Errorf("%d lists were long", long)
	}
}

// A chain as long as one likes is gone through, and not by calls within one another.
func TestLongChain(t *testing.T) {
	const n = 20000
	h := newHeap(t, n, 1<<30, 1)
	object(t, h, null(), has("a", ref(2)))
	for o := 2; o <= n; o++ {
		object(t, h, null(), has("a", ref(o%n+1)))
	}
	l, err := byPackage().harden(h, ref(1))
	if err != nil || len(l) != n || l[0] != 1 || l[n-1] != n || 1<<30-h.Fuel() != 7*n {
		t.Fatalf("21.5: %d of %d, %v, %d spent", len(l), n, err, 1<<30-h.Fuel())
	}
	for o := 1; o <= n; o++ {
		if s, _ := h.Shape(o); s.Extensible || s.Props[0].Desc.Writable == api.Yes {
			t.Fatalf("21.5: %d is %v", o, s)
		}
	}
}

// One object that leads to many, which lead back.
func TestStar(t *testing.T) {
	const n = 5000
	h := newHeap(t, n, 1<<30, 1)
	object(t, h, null())
	for o := 2; o <= n; o++ {
		object(t, h, ref(1), has("back", ref(1)))
		lay(t, h, 1, api.Prop{Key: sym(n + 1 - o), Desc: data(ref(o), "wec")})
	}
	l, err := byPackage().harden(h, ref(1))
	if err != nil || len(l) != n || 1<<30-h.Fuel() != 4+3*(n-1)+7*(n-1) {
		t.Fatalf("21.5: %d of %d, %v, %d spent", len(l), n, err, 1<<30-h.Fuel())
	}
	for i, o := range l {
		if o != i+1 {
			t.Fatalf("21.5: %d is at the place %d", o, i)
		}
	}
}

// What objects of every class lead to: by prototypes and properties alone.
func TestHardenEveryClass(t *testing.T) {
	w := newWorld(t, 0, 9)
	base, f, n := 1, w.n["function"], w.n
	for name, want := range map[string][]int{
		"empty": {base}, "one": {base}, "many": {base, n["getter"]}, "child": {n["frozen"], base, n["getter"]},
		"function": {base}, "class": {base}, "native": {}, "bound": {base}, "bound class": {base}, // not what they are bound to
		"array": {base}, "empty array": {base}, "short array": {base}, "described array": {base},
		"mapped": {base, f}, "loosened": {base}, "bare mapped": {base}, "unmapped": {base, f},
		"string": {base}, "described string": {base}, "buffer": {base}, "no elements": {base}, "detached": {base}, // not their buffer
		"no exports": {},
	} {
		w := newWorld(t, 1<<20, 9)
		l := append([]int{n[name]}, want...)
		cost := 0
		for _, o := range l {
			cost += 4 + 3*len(tells(w.h, o).keys)
		}
		harden(ref(n[name])).is(t, w.h, cost, l, nil)
		for _, o := range l {
			isFrozen(o).stays(t, w.h, 2+len(tells(w.h, o).keys), true, nil)
		}
	}
}

// What cannot be frozen throws a TypeError, wherever it stands; what stands ahead of it is frozen by then, and what stands behind it is not.
func TestHardenRefused(t *testing.T) {
	for _, name := range []string{"elements", "bound exports"} {
		w := newWorld(t, 1<<20, 9)
		first := object(t, w.h, null(), has("a", num(1)))
		last := object(t, w.h, null(), has("a", num(1)))
		o := object(t, w.h, ref(first), has("a", ref(w.n[name])), has("b", ref(last)))
		cost := 10 + 7 + 4
		if name == "bound exports" {
			cost += 3
		}
		harden(ref(o)).is(t, w.h, cost, nil, typeError())
		for i, want := range map[int]bool{o: true, first: true, last: false} {
			if s, err := isFrozen(i).played(w.h); s != fmt.Sprint(want) || err != nil {
				t.Errorf("21.5: %s: %d is frozen: %s, %v", name, i, s, err)
			}
		}
		if s := shapeOf(t, w.h, last); !s.Extensible {
			t.Errorf("21.5: %v", s)
		}
	}
}

// Where Freeze answers false it is a TypeError.
func TestHardenNo(t *testing.T) {
	h := newHeap(t, 20, 1000, 9)
	object(t, h, null())
	p := proxied(t, h, 1, object(t, h, null(), has("preventExtensions", ref(giving(t, h, no())))))
	harden(ref(p)).is(t, h, 3, nil, typeError())
	o := object(t, h, null(), has("a", ref(p)))
	harden(ref(o)).is(t, h, 7+3, nil, typeError())
	isFrozen(o).is(t, h, 3, true, nil)
	isExt(1).is(t, h, 1, true, nil)
}

// What a proxy leads to is what it tells: not its target, nor its handler. As an element, a prototype, a getter it is one object among others.
func TestHardenProxies(t *testing.T) {
	h := newHeap(t, 20, 1000, 9)
	object(t, h, null(), has("z", num(1)))
	target := object(t, h, ref(1), has("a", ref(1)))
	p := proxied(t, h, target, object(t, h, null(), has("hidden", ref(1))))
	harden(ref(p)).is(t, h, 3*7+7, []int{p, 1}, nil)
	isFrozen(target).is(t, h, 3, true, nil)
	looks(t, h, 3, bare(true, has("hidden", ref(1))))
	looks(t, h, p, api.Shape{Class: api.CProxy, Proto: null(), Extensible: true})

	n, err := array.Of(h, ref(p), []api.Value{ref(p)})
	o := made(t, n, err)
	harden(ref(o)).is(t, h, 10+3*7+7, []int{o, p, 1}, nil)
}

// Functions that are bound, and what they are bound to: what one does not see by properties is not led to.
func TestHardenBound(t *testing.T) {
	h := newHeap(t, 20, 1000, 9)
	f := giving(t, h, null())
	object(t, h, null())
	n, err := bound.Bind(h, f, ref(2), []api.Value{ref(2)})
	o := made(t, n, err)
	harden(ref(o)).is(t, h, 10, []int{o}, nil)
	looks(t, h, f, api.Shape{Class: api.CNative, Proto: null(), Extensible: true})
	looks(t, h, 2, bare(true))
	q := proxied(t, h, f, 2)
	harden(ref(q)).is(t, h, 3*4, []int{q}, nil)
	if e := proxy.Revoke(h, q); e != api.OK {
		t.Error(e)
	}
	r := object(t, h, null(), has("a", ref(q)))
	harden(ref(r)).is(t, h, 7+1, nil, typeError())
}

// Getters are told, and never called.
func TestGettersAreNotCalled(t *testing.T) {
	h := newHeap(t, 20, 1000, 9)
	f := addNative(t, h, func(api.Value, []api.Value) (api.Value, error) {
		t.Error("it was called")
		return null(), nil
	})
	o := object(t, h, null(), is("a", accessor(ref(f), ref(f), "ec")))
	for _, x := range all(o) {
		if _, err := x.played(h); err != nil {
			t.Errorf("%v: %v", x, err)
		}
	}
	harden(ref(o)).is(t, h, 7+4, []int{o, f}, nil)
}

// An object that stands in the heap's last place, and one in its first, are reached like others.
func TestHardenEnds(t *testing.T) {
	h, e := heap.New(api.MaxObjects, 1<<20, 1)
	if e != api.OK {
		t.Fatal(e)
	}
	for range api.MaxObjects - 1 {
		h.Make(null())
	}
	o := object(t, h, ref(1), has("a", ref(api.MaxObjects-1)))
	if o != api.MaxObjects {
		t.Fatal(o)
	}
	harden(ref(o)).is(t, h, 7+4+4, []int{o, 1, o - 1}, nil)
}
