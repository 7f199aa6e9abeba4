package mirror_test

// 22.4 and 22.10: with objects, and keys that are strings or symbols, Reflect's functions are the internal methods: of every class they answer, cost and leave the same.

import (
	"fmt"
	"maps"
	"slices"
	"testing"

	"cameo/api"
	"cameo/heap"
	"cameo/key"
	"cameo/records"
)

// method is what a call is as an internal method, of objects and keys.
func (x act) method(h *heap.Heap) (string, error) {
	o := x.v[0].Id
	var k api.Key
	if len(x.v) > 1 {
		k, _ = key.Of(x.v[1])
	}
	switch x.name {
	case "DefineProperty": // its attributes are asked ahead of it
		d, err := records.To(h, x.v[2])
		if err != nil {
			return "", err
		}
		return said(h.DefineOwnProperty(o, k, d))
	case "DeleteProperty":
		return said(h.Delete(o, k))
	case "Get":
		return said(h.Get(o, k, x.v[2]))
	case "Set":
		return said(h.Set(o, k, x.v[2], x.v[3]))
	case "Has":
		return said(h.HasProperty(o, k))
	case "HasOwn":
		_, there, err := h.GetOwnProperty(o, k)
		return said(there, err)
	case "Descriptor":
		d, there, err := h.GetOwnProperty(o, k)
		if !there || err != nil {
			return said(undefinedBeside(err), err)
		}
		n, err := records.From(h, d, null())
		return said(ref(n), err)
	case "GetPrototypeOf":
		return said(h.GetPrototypeOf(o))
	case "SetPrototypeOf":
		return said(h.SetPrototypeOf(o, x.v[1]))
	case "IsExtensible":
		return said(h.IsExtensible(o))
	case "PreventExtensions":
		return said(h.PreventExtensions(o))
	}
	panic(x.name)
}

func undefinedBeside(err error) api.Value {
	if err != nil {
		return api.Value{}
	}
	return undefined()
}

// attributes is objects that are read as descriptors: those of some sorts of properties.
func (w world) attributes() []api.Value {
	var l []api.Value
	for _, d := range []api.Desc{{}, data(num(1), "wec"), data(num(7), ""), {Value: text("x")}, {Writable: api.No}, {Configurable: api.No}, {Enumerable: api.No}, {Enumerable: api.Yes, Configurable: api.Yes, Get: ref(w.n["getter"])}, {Value: num(2)}, {Value: undefined(), Writable: api.Yes}} {
		n, err := records.From(w.h, d, null())
		l = append(l, ref(made(w.t, n, err)))
	}
	return l
}

// places is keys of every sort, among them those that the objects of a world have.
func places() []api.Value {
	l := []api.Value{text("a"), text("b"), text("c"), text("base"), text("length"), text("name"), text("callee"), text("prototype"), text("more"), text("0"), text("1"), text("2"), text("3"), text("7"), text("5"), text("4294967294"), text("-0"), text("1.5"), text("01"), text(""), text("NaN"), text("new")}
	for _, n := range []int{1, 3, api.SymToStringTag, api.SymIterator, 20} {
		l = append(l, symbol(n))
	}
	return l
}

// mirrored is the calls of an object and a key.
func mirrored(o int, k api.Value, attributes []api.Value, turn int) []act {
	v := ref(o)
	l := []act{ask("HasOwn", v, k), ask("Has", v, k), ask("Descriptor", v, k), ask("Get", v, k, v), ask("Get", v, k, ref(1)), ask("Get", v, k, num(5)), ask("Set", v, k, num(3), v), ask("Set", v, k, text("1"), ref(2)), ask("Set", v, k, num(0), null()), ask("Set", ref(2), k, num(4), v)}
	for i := range 3 {
		l = append(l, ask("DefineProperty", v, k, attributes[(turn+i*3)%len(attributes)]))
	}
	return append(l, ask("Get", v, k, v), ask("DeleteProperty", v, k), ask("Has", v, k))
}

// twins plays an act as a call and as a method, in two worlds that are the same.
func twins(t *testing.T, one, two world, name string, x act) {
	t.Helper()
	was, also := one.h.Fuel(), two.h.Fuel()
	got, err := x.played(one.h)
	want, wrong := x.method(two.h)
	if got != want || !sameError(err, wrong) || was-one.h.Fuel() != also-two.h.Fuel() {
		t.Errorf("22.10: %s: %v: %s, %v, %d spent; want %s, %v, %d", name, x, got, err, was-one.h.Fuel(), want, wrong, also-two.h.Fuel())
	}
	if a, b := now(one.h), now(two.h); !sameMoment(a, b) {
		t.Fatalf("22.10: %s: %v: %v; want %v", name, x, a, b)
	}
}

// guarded is a world with proxies in front of one of its objects: as many as are asked for, and, if it is asked for, the outermost one revoked.
func guarded(t *testing.T, name string, proxies int, revoked bool) (world, int, []api.Value) {
	t.Helper()
	w := newWorld(t, 1<<20, 9)
	o, l := w.n[name], w.attributes()
	for range proxies {
		o = w.proxy(o)
	}
	if revoked {
		w.revoke(o)
	}
	return w, o, l
}

func TestMethods(t *testing.T) {
	t.Parallel()
	for i, name := range append(slices.Sorted(maps.Keys(sorts())), "exports") {
		for proxies := range 3 {
			revoked := proxies == 2
			one, o, l := guarded(t, name, proxies, revoked)
			two, _, _ := guarded(t, name, proxies, revoked)
			for j, k := range places() {
				if (i+j)%3 > 0 && (proxies > 0 || j%2 > 0) {
					continue
				}
				for _, x := range mirrored(o, k, l, i+j) {
					twins(t, one, two, name, x)
				}
			}
			v := ref(o)
			for _, x := range []act{ask("GetPrototypeOf", v), ask("IsExtensible", v), ask("SetPrototypeOf", v, v), ask("SetPrototypeOf", v, ref(2)), ask("GetPrototypeOf", v), ask("SetPrototypeOf", v, null()), ask("PreventExtensions", v), ask("SetPrototypeOf", v, ref(2)), ask("IsExtensible", v), ask("Set", v, text("late"), num(1), v)} {
				twins(t, one, two, name, x)
			}
		}
	}
}

// With each fuel that is too little, and each depth, they end as the methods do.
func TestMethodsWithLess(t *testing.T) {
	t.Parallel()
	for i, name := range []string{"one", "many", "array", "mapped", "string", "elements", "bound exports", "exports", "bound"} {
		for proxies := range 2 {
			for j, k := range places()[:12] {
				one, o, l := guarded(t, name, proxies, false)
				two, _, _ := guarded(t, name, proxies, false)
				for n, x := range mirrored(o, k, l, i+j) {
					fuel := (i + j*3 + n) % 9
					one.h.Refuel(fuel)
					two.h.Refuel(fuel)
					twins(t, one, two, name, x)
				}
			}
		}
	}
}

// What a key is not: a value of another kind is made one, by its text.
func TestValuesAsKeys(t *testing.T) {
	for _, k := range plain() {
		as, e := key.Of(k)
		if e != api.OK {
			t.Fatal(e)
		}
		one, two := newWorld(t, 1000, 9), newWorld(t, 1000, 9)
		l := one.attributes()
		two.attributes()
		for i, x := range mirrored(one.n["one"], k, l, 0) {
			y := mirrored(one.n["one"], word(as), l, 0)[i]
			got, err := x.played(one.h)
			want, wrong := y.method(two.h)
			if got != want || !sameError(err, wrong) || !sameMoment(now(one.h), now(two.h)) {
				t.Errorf("22.4: %v: %s, %v; want %s, %v", x, got, err, want, wrong)
			}
		}
	}
}

// Apply and Construct of functions of every class.
func TestFunctions(t *testing.T) {
	for _, list := range []string{"array", "mapped", "string", "elements", "empty array", "one", "bound", "function"} {
		for _, proxies := range []int{0, 1, 2} {
			for _, name := range []string{"function", "class", "native", "bound", "bound class"} {
				one, f, _ := guarded(t, name, proxies, false)
				two, _, _ := guarded(t, name, proxies, false)
				l, err := records.List(two.h, ref(two.n[list]))
				if err != nil {
					t.Fatal(err)
				}
				for i, this := range []api.Value{undefined(), num(1), text("this"), ref(1)} {
					if i > 0 {
						records.List(two.h, ref(two.n[list]))
					}
					v, wrong := two.h.Call(f, this, l)
					was := one.h.Fuel()
					got, err := ask("Apply", ref(f), this, ref(one.n[list])).played(one.h)
					if got != fmt.Sprint(v) || !sameError(err, wrong) || one.h.Fuel() != two.h.Fuel() {
						t.Errorf("22.4: Apply of %s to %s: %s, %v, %d spent; want %v, %v", name, list, got, err, was-one.h.Fuel(), v, wrong)
					}
				}
				for _, target := range []string{"class", "bound class"} {
					x := ask("Construct", ref(f), ref(one.n[list]), ref(one.n[target]))
					if !one.h.Constructor(ref(f)) {
						x.stays(t, one.h, 0, nil, typeError())
						ask("Construct", ref(one.n[target]), ref(one.n[list]), ref(f)).stays(t, one.h, 0, nil, typeError())
						continue
					}
					records.List(two.h, ref(two.n[list]))
					n, wrong := two.h.Construct(f, l, two.n[target])
					got, err := x.played(one.h)
					if got != fmt.Sprint(ref(n)) || !sameError(err, wrong) || one.h.Fuel() != two.h.Fuel() || !sameMoment(now(one.h), now(two.h)) {
						t.Errorf("22.4: %v: %s, %v; want %d, %v", x, got, err, n, wrong)
					}
				}
			}
		}
	}
}

// A thing that is a function is none in another heap's eyes; and what is proxied without being callable cannot be called.
func TestNoFunctions(t *testing.T) {
	w := newWorld(t, 1000, 9)
	l := ref(w.n["array"])
	for _, name := range slices.Sorted(maps.Keys(sorts())) {
		for _, o := range []int{w.n[name], w.proxy(w.n[name])} {
			can, builds := sorts()[name].word == "Function", name == "class" || name == "bound class"
			if !can {
				ask("Apply", ref(o), null(), l).stays(t, w.h, 0, nil, typeError())
			}
			if !builds {
				ask("Construct", ref(o), l, ref(o)).stays(t, w.h, 0, nil, typeError())
				ask("Construct", ref(o), l, ref(w.n["class"])).stays(t, w.h, 0, nil, typeError())
				ask("Construct", ref(w.n["class"]), l, ref(o)).stays(t, w.h, 0, nil, typeError())
			}
		}
	}
}
