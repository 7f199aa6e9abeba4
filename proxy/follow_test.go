package proxy_test

// What follows (19.13, W2, W3, W6): no proxy goes against what its target has promised, over handlers, targets and acts drawn at random.

import (
	"slices"
	"testing"

	"cameo/api"
	"cameo/heap"
	"cameo/invariant"
	sounds "cameo/ordinary"
	"cameo/proxy"
)

// promise is what a target, which is no proxy, says of itself at a moment, and of its property k.
type promise struct {
	proto api.Value
	ext   bool
	d     api.Desc
	there bool
	keys  []api.Key
	fixed []api.Key // those whose properties are not configurable
}

// promised asks a target, whose methods that are asked here run no program.
func promised(t *testing.T, h *heap.Heap, o int, k api.Key) promise {
	t.Helper()
	fuel := h.Fuel()
	h.Refuel(1 << 20)
	var p promise
	var errs [4]error
	p.proto, errs[0] = h.GetPrototypeOf(o)
	p.ext, errs[1] = h.IsExtensible(o)
	p.d, p.there, errs[2] = h.GetOwnProperty(o, k)
	p.keys, errs[3] = h.OwnPropertyKeys(o)
	for _, err := range errs {
		if err != nil {
			t.Fatal(err)
		}
	}
	for _, k := range p.keys {
		if d, _, _ := h.GetOwnProperty(o, k); d.Configurable == api.No {
			p.fixed = append(p.fixed, k)
		}
	}
	h.Refuel(fuel)
	return p
}

// stands tells whether the property is not configurable.
func (p promise) stands() bool { return p.there && p.d.Configurable == api.No }

// hidden tells whether the property may be said not to be there.
func (p promise) hidden() bool { return !p.there || p.d.Configurable == api.Yes && p.ext }

// told tells whether a property that stands may be told by n; now: at this very moment, so that a property that can be written is told so.
func (p promise) told(n api.Desc, now bool) bool {
	switch {
	case n.Configurable != api.No || n.Enumerable != p.d.Enumerable:
		return false
	case p.d.Writable == api.Absent:
		return n.Get == p.d.Get && n.Set == p.d.Set && n.Writable == api.Absent
	case n.Writable == api.Absent:
		return false
	case p.d.Writable == api.No:
		return n.Writable == api.No && sameValue(n.Value, p.d.Value)
	}
	return !now || n.Writable == api.Yes
}

// said is whether a method's answer does not go against the promise; now: it is what the target says behind the act, which nothing has changed since it was looked at, else what it said ahead of it.
func (p promise) said(h *heap.Heap, x act, answer any, now bool) bool {
	yes, _ := answer.(bool)
	switch x.name {
	case "GetPrototypeOf":
		return p.ext || answer == p.proto
	case "SetPrototypeOf":
		return !yes || p.ext || x.v == p.proto
	case "IsExtensible":
		return yes == p.ext || !now && p.ext
	case "PreventExtensions":
		return !yes || !now || !p.ext
	case "GetOwnProperty":
		n := answer.(own)
		switch {
		case !n.ok:
			return !p.stands() && (!now || p.hidden()) && (p.ext || !p.there || !now)
		case p.stands():
			return p.told(n.d, now)
		case !p.there:
			return p.ext && (!now || n.d.Configurable == api.Yes)
		}
		return !now || n.d.Configurable == api.Yes
	case "DefineOwnProperty":
		switch {
		case !yes:
			return true
		case !p.there:
			return p.ext && (!now || x.d.Configurable != api.No)
		case !p.stands():
			return !now || x.d.Configurable != api.No
		}
		n := over(p.d, x.d)
		return p.told(n, now) && !(now && p.d.Writable == api.Yes && x.d.Writable == api.No)
	case "HasProperty":
		return yes || !p.stands() && (!now || p.hidden())
	case "Get":
		if !p.stands() {
			return true
		}
		v := answer.(api.Value)
		return !(p.d.Writable == api.No && !sameValue(v, p.d.Value)) && !(p.d.Get == undefined() && v != undefined())
	case "Set":
		return !yes || !p.stands() || !(p.d.Writable == api.No && !sameValue(x.v, p.d.Value)) && p.d.Set != undefined()
	case "Delete":
		return !yes || !p.stands() && (!now || p.hidden())
	case "OwnPropertyKeys":
		return p.lists(answer.([]api.Key), now)
	}
	return true
}

// over is a property with the fields of a descriptor that are there.
func over(d, n api.Desc) api.Desc {
	for _, f := range [][2]*api.Value{{&d.Value, &n.Value}, {&d.Get, &n.Get}, {&d.Set, &n.Set}} {
		if f[1].Kind != api.KNone {
			*f[0] = *f[1]
		}
	}
	for _, f := range [][2]*api.Tri{{&d.Writable, &n.Writable}, {&d.Enumerable, &n.Enumerable}, {&d.Configurable, &n.Configurable}} {
		if *f[1] != api.Absent {
			*f[0] = *f[1]
		}
	}
	return d
}

// lists tells whether keys may be told: none twice, all that are fixed; of what is not extensible no other ones, and now just these.
func (p promise) lists(l []api.Key, now bool) bool {
	for i, k := range l {
		if slices.Contains(l[:i], k) || !p.ext && !slices.Contains(p.keys, k) {
			return false
		}
	}
	for _, k := range p.fixed {
		if !slices.Contains(l, k) {
			return false
		}
	}
	return p.ext || !now || len(l) == len(p.keys)
}

// asked is what a method answers, as it is.
func asked(h *heap.Heap, x act) (any, error) {
	switch x.name {
	case "GetPrototypeOf":
		return h.GetPrototypeOf(x.o)
	case "SetPrototypeOf":
		return h.SetPrototypeOf(x.o, x.v)
	case "IsExtensible":
		return h.IsExtensible(x.o)
	case "PreventExtensions":
		return h.PreventExtensions(x.o)
	case "GetOwnProperty":
		return ownOf(h, x.o, x.k)
	case "DefineOwnProperty":
		return h.DefineOwnProperty(x.o, x.k, x.d)
	case "HasProperty":
		return h.HasProperty(x.o, x.k)
	case "Get":
		return h.Get(x.o, x.k, x.receiver)
	case "Set":
		return h.Set(x.o, x.k, x.v, x.receiver)
	case "Delete":
		return h.Delete(x.o, x.k)
	case "OwnPropertyKeys":
		return h.OwnPropertyKeys(x.o)
	}
	_, err := x.played(h)
	return nil, err
}

// trapped tells whether a handler has a method's trap of its own, as data that can be called.
func trapped(h *heap.Heap, handler int, name string) bool {
	s, _ := h.Shape(handler)
	at := slices.Index(methods(), name)
	return at >= 0 && slices.ContainsFunc(s.Props, func(p api.Prop) bool { return p.Key == str(proxy.Traps()[at]) && h.Callable(p.Desc.Value) })
}

// 19.13, W6: whatever traps do.
func TestNoLies(t *testing.T) {
	t.Parallel()
	held, behind := map[string]int{}, map[string]int{}
	for seed := range int64(1500) {
		w := build(t, seed, 20, byPackage)
		c := newChance(seed * 7)
		w.c = c
		for range 25 {
			c.objects = w.h.Len()
			x := w.act()
			target, handler, e := proxy.Parts(w.h, x.o)
			class, _ := w.h.Class(target.Id)
			if e != api.OK || target == null() || class == api.CProxy {
				x.played(w.h)
				continue
			}
			before := promised(t, w.h, target.Id, x.k)
			sure := trapped(w.h, handler.Id, x.name)
			w.h.Refuel(300)
			answer, err := asked(w.h, x)
			if err != nil || answer == nil {
				continue
			}
			if held[x.name]++; !before.said(w.h, x, answer, false) {
				t.Fatalf("19.13: seed %d: %v answers %v, against %v", seed, x, answer, before)
			}
			if sure && x.name != "GetOwnProperty" { // which may have run programs since it looked
				if behind[x.name]++; !promised(t, w.h, target.Id, x.k).said(w.h, x, answer, true) {
					t.Fatalf("19.13: seed %d: %v answers %v, against what the target says behind it: %v", seed, x, answer, promised(t, w.h, target.Id, x.k))
				}
			}
		}
	}
	for _, s := range methods()[:11] {
		if held[s] < 400 || behind[s] < 100 && s != "GetOwnProperty" {
			t.Errorf("%s: %d, %d", s, held[s], behind[s])
		}
	}
}

// 19.4: where the object that the trap answers is all data, nothing runs behind the look at the target: what is told fits what it says then.
func TestNoLiesAboutOwn(t *testing.T) {
	t.Parallel()
	met := [2]int{}
	for seed := range int64(20000) {
		c := newChance(seed)
		h := newHeap(t, 20, 1000, 9)
		f := ref(giving(t, h, num(1)))
		c.objects = 1
		target := ordinary(t, h, null())
		for range c.Intn(4) {
			h.DefineOwnProperty(target, pick(c, str("a"), str("a"), str("b")), c.lie([]api.Value{f}))
		}
		if c.Intn(2) == 0 {
			fix(h, target)
		}
		l, _ := fields(c.lie([]api.Value{f}))
		r := ref(ordinary(t, h, null(), l...))
		if c.Intn(3) == 0 {
			s, _ := h.Shape(target)
			for _, p := range s.Props { // mostly it is what is there
				l, _ = fields(p.Desc)
				r = ref(ordinary(t, h, null(), l...))
			}
		}
		p := of(t, h, target, ordinary(t, h, null(), has("getOwnPropertyDescriptor", ref(giving(t, h, pick(c, r, r, r, undefined()))))))
		x := getOwn(p, str("a"))
		answer, err := asked(h, x)
		if err != nil {
			met[0]++
			continue
		}
		met[1]++
		if now := promised(t, h, target, x.k); !now.said(h, x, answer, true) {
			t.Fatalf("19.13: seed %d: %v, against %v", seed, answer, now)
		}
	}
	if met[0] < 5000 || met[1] < 5000 {
		t.Errorf("%v", met)
	}
}

// 19.13: a proxy without traps answers as its target does, where the receiver is not the proxy itself.
func TestWithoutTraps(t *testing.T) {
	t.Parallel()
	met := map[string]*came{}
	for _, s := range methods() {
		met[s] = &came{}
	}
	for seed := range int64(2000) {
		one, two := build(t, seed, 30, byPackage), build(t, seed, 30, byPackage)
		c := newChance(seed + 5)
		one.c = c
		c.objects = one.h.Len()
		target := pick(c, c.ref(), pick(c, one.proxies...), pick(c, one.functions...)).Id
		var p int
		for _, w := range []*lair{one, two} {
			p = of(t, w.h, target, ordinary(t, w.h, null()))
		}
		for n := range 12 {
			c.objects = p - 2 // neither the proxy nor its handler
			x := one.act()
			if !slices.Contains(methods(), x.name) || x.o == x.target && x.name == "Construct" {
				continue
			}
			x.o = target
			y := x
			y.o = p
			one.h.Refuel(1000)
			two.h.Refuel(1002)
			v, err := x.played(one.h)
			w, wrong := y.played(two.h)
			met[x.name].count(err)
			if err == api.ErrKind && err == wrong {
				continue // that is refused, and costs nothing
			}
			if stops(err) || stops(wrong) {
				break // of what a limit ends nothing is said
			}
			if v != w || !sameError(err, wrong) || one.h.Fuel() != two.h.Fuel() || differs(one.h.Shapes(), two.h.Shapes()) != 0 {
				t.Fatalf("19.13: seed %d, act %d: %v: %s, %v with %d left; by a proxy %s, %v with %d", seed, n, x, v, err, one.h.Fuel(), w, wrong, two.h.Fuel())
			}
		}
	}
	for _, s := range methods() {
		if m := met[s]; m.answers < 50 || m.throws < 10 {
			t.Errorf("%s: %v", s, *m)
		}
	}
}

func stops(err error) bool {
	_, ok := err.(api.Errno)
	return ok
}

// 19.13: target and handler are changed by nothing but what traps do: where these do nothing, both stay as they are, and all that comes is what the traps are given.
func TestNothingElseChanges(t *testing.T) {
	t.Parallel()
	comes := map[string]int{"DefineOwnProperty": 1, "Call": 1, "Construct": 1}
	for seed := range int64(1000) {
		c := newChance(seed)
		h := newHeap(t, 80, 1<<20, 20)
		f := ref(giving(t, h, num(1)))
		c.objects = 1
		target := class(t, h)
		for range c.Intn(5) {
			h.DefineOwnProperty(target, c.key(), c.lie([]api.Value{f}))
		}
		if c.Intn(2) == 0 {
			fix(h, target)
		}
		w := &lair{t: t, h: h, c: c, functions: []api.Value{f}}
		for range 3 {
			l, _ := fields(c.lie(w.functions))
			w.tales = append(w.tales, ref(ordinary(t, h, null(), l...)))
			n, err := arrayOf(h, texts([]string{"a", "b", "length"}[:c.Intn(4)]...))
			w.lists = append(w.lists, ref(made(t, n, err)))
		}
		handler := ordinary(t, h, null())
		for _, s := range proxy.Traps() {
			c.objects = h.Len()
			lay(t, h, handler, has(s, ref(giving(t, h, w.answer(s)))))
		}
		p := of(t, h, target, handler)
		w.proxies, c.objects = []api.Value{ref(p)}, h.Len()
		for range 20 {
			x := w.act()
			if !slices.Contains(methods(), x.name) {
				continue
			}
			x = x.of(p)
			before := h.Shapes()
			_, err := x.played(h)
			if e, ok := err.(api.Errno); ok && e != api.ErrValue && e != api.ErrKind {
				t.Fatalf("%s: %v", x.name, err)
			}
			after := h.Shapes()
			if n := len(after) - len(before); differs(before, after[:len(before)]) != 0 || n > comes[x.name] || n < comes[x.name] && err == nil {
				t.Fatalf("19.13: seed %d: %v changes %d, and makes %d", seed, x, differs(before, after[:len(before)]), n)
			}
		}
	}
}

// W2, W3: behind each act, and within each of these, all shapes are sound, and no rule between two moments is broken; a proxy's shape is always the same.
func TestAlways(t *testing.T) {
	t.Parallel()
	for seed := range int64(300) {
		w := build(t, seed, 20, byPackage)
		moments := [][]api.Shape{w.h.Shapes()}
		look := func() {
			l := w.h.Shapes()
			if at := sounds.Sound(l); at != -1 {
				t.Fatalf("W2: seed %d: %d is not sound: %v", seed, at+1, l[at])
			}
			for _, before := range moments {
				if o, rule := invariant.Broken(before, l); rule != 0 {
					t.Fatalf("W3: seed %d: %d breaks the rule %d: %v became %v", seed, o, rule, before[o-1], l[o-1])
				}
			}
			for i, s := range l {
				if s.Class == api.CProxy && !sameShape(s, proxyShape()) {
					t.Fatalf("19: seed %d: %d is %v", seed, i+1, s)
				}
			}
		}
		spy := addNative(t, w.h, func(api.Value, []api.Value) (api.Value, error) {
			look()
			return undefined(), nil
		})
		// The handlers are asked by way of the spy: no trap that is missing is told by nothing.
		for _, v := range w.handlers {
			for _, s := range proxy.Traps() {
				if w.c.Intn(4) == 0 {
					heap.Ordinary{}.DefineOwnProperty(w.h, v.Id, str(s), accessor(ref(spy), undefined(), api.Yes, api.Yes))
				}
			}
		}
		for range 20 {
			w.c.objects = w.h.Len()
			x := w.act()
			w.h.Refuel(w.c.Intn(150))
			x.played(w.h)
			look()
			moments = append(moments, w.h.Shapes())
		}
	}
}
