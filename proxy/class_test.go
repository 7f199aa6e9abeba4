package proxy_test

// Targets of every class that the layers below make.

import (
	"strconv"
	"testing"

	"cameo/api"
	"cameo/args"
	"cameo/array"
	"cameo/bound"
	"cameo/heap"
	"cameo/proxy"
	"cameo/strobj"
	"cameo/typed"
)

// world is a heap with an object of every class, by its name.
type world struct {
	t *testing.T
	h *heap.Heap
	n map[string]int
}

// classes is the names of the objects of a world, in the order in which they are made.
func classes() []string {
	return []string{"ordinary", "function", "class", "mapped", "unmapped", "array", "buffer", "typed", "string", "bound", "bound class", "proxy"}
}

func newWorld(t *testing.T, fuel int) world {
	t.Helper()
	w := world{t, newHeap(t, 60, 1<<20, 30), map[string]int{}}
	h := w.h
	base := ordinary(t, h, null(), has("base", num(1)), is("fixed", shut(num(2))))
	add := func(name string, n int, err error) {
		t.Helper()
		w.n[name] = made(t, n, err)
	}
	proto := ref(base)
	add("ordinary", ordinary(t, h, proto, has("a", num(1)), is("b", shut(num(2))), is("c", accessor(undefined(), undefined(), api.Yes, api.No))), nil)
	add("function", fn(t, h, api.Op{Code: api.OArg, A: 0}, api.Op{Code: api.OReturn}), nil)
	add("class", class(t, h, api.Op{Code: api.OThis}, api.Op{Code: api.OArg, To: 1}, api.Op{Code: api.OSet, To: 2, A: 0, B: 1, Key: str("a")}), nil)
	lay(t, h, w.n["class"], has("prototype", proto))
	n, err := args.Mapped(h, proto, values(1, 3), []string{"a", "b"}, null())
	add("mapped", n, err)
	n, err = args.Unmapped(h, proto, values(1, 3), ref(w.n["function"]))
	add("unmapped", n, err)
	n, err = array.Of(h, proto, values(5, 3))
	add("array", n, err)
	n, err = typed.Buffer(h, proto, 8)
	add("buffer", n, err)
	n, err = typed.New(h, proto, w.n["buffer"], api.TInt8, 0, 4)
	add("typed", n, err)
	n, err = strobj.New(h, proto, "ab")
	add("string", n, err)
	n, err = bound.Bind(h, w.n["function"], null(), values(7, 1))
	add("bound", n, err)
	n, err = bound.Bind(h, w.n["class"], null(), values(7, 1))
	add("bound class", n, err)
	n, err = proxy.New(h, ref(w.n["array"]), ref(base))
	add("proxy", n, err)
	h.Refuel(fuel)
	return w
}

// deeds is acts of every sort, as they are done with any object.
func deeds(h *heap.Heap, o int) []act {
	l := []act{getProto(o), setProto(o, null()), setProto(o, ref(1)), isExt(o), keysOf(o)}
	for _, k := range []api.Key{str("a"), str("b"), str("c"), str("base"), str("fixed"), str("0"), str("1"), str("2"), str("7"), str("-0"), str("1.5"), str("length"), str("callee"), str("prototype"), str("name"), sym(1)} {
		l = append(l, getOwn(o, k), hasProp(o, k), gets(o, k, null()), gets(o, k, ref(1)))
	}
	if h.Callable(ref(o)) {
		l = append(l, calls(o, null(), num(3)), calls(o, ref(1)))
	}
	if h.Constructor(ref(o)) {
		l = append(l, constructs(o, 4, num(3))) // the class of each world
	}
	return l
}

// changes is acts of every sort that change an object, one of which is done with each.
func changes(o int) []act {
	l := []act{prevent(o), setProto(o, null())}
	for _, k := range []api.Key{str("a"), str("b"), str("c"), str("0"), str("1"), str("7"), str("-0"), str("length"), str("callee"), sym(1)} {
		l = append(l, deletes(o, k))
		for _, v := range []api.Value{num(1), num(300), text("x"), undefined()} {
			l = append(l, sets(o, k, v, ref(1)), sets(o, k, v, null()), defines(o, k, open(v)), defines(o, k, api.Desc{Value: v}), defines(o, k, shut(v)))
		}
		l = append(l, defines(o, k, api.Desc{Writable: api.No}), defines(o, k, api.Desc{Get: undefined()}), defines(o, k, api.Desc{Enumerable: api.No}))
	}
	return l
}

// A proxy without traps answers as its target does, whatever that is, and costs two more.
func TestTargetsOfEveryClass(t *testing.T) {
	t.Parallel()
	for _, name := range classes() {
		none := newWorld(t, 0).h
		for i := range changes(0) {
			one, two := newWorld(t, 1<<20), newWorld(t, 1<<20)
			target := one.n[name]
			p := of(t, two.h, target, ordinary(t, two.h, null()))
			ordinary(t, one.h, null()) // so that the same numbers are left
			ordinary(t, one.h, null())
			both := func(x, y act) {
				t.Helper()
				left, also := one.h.Fuel(), two.h.Fuel()
				v, err := x.played(one.h)
				w, wrong := y.played(two.h)
				if v != w || !sameError(err, wrong) || also-two.h.Fuel() != left-one.h.Fuel()+2 {
					t.Fatalf("19.13: %s behind %d: %s of %v: %s, %v; by a proxy %s, %v, costing %d and %d", name, i, x.name, x.k, v, err, w, wrong, left-one.h.Fuel(), also-two.h.Fuel())
				}
				if !sameShapes(one.h.Shapes()[:none.Len()], two.h.Shapes()[:none.Len()]) {
					t.Fatalf("19.13: %s behind %d: %s of %v: %v, not %v", name, i, x.name, x.k, two.h.Shapes(), one.h.Shapes())
				}
			}
			both(changes(target)[i], changes(p)[i])
			l, m := deeds(one.h, target), deeds(two.h, p)
			for j := range l {
				both(l[j], m[j])
			}
		}
	}
}

// What a proxy of an array, of arguments and of a typed array is told with itself as the receiver comes to the target.
func TestTargetsByTheirProxy(t *testing.T) {
	w := newWorld(t, 1000)
	h, handler := w.h, ordinary(t, w.h, null())
	p := of(t, h, w.n["array"], handler)
	if ok, err := h.Set(p, str("5"), num(1), ref(p)); !ok || err != nil {
		t.Errorf("%v, %v", ok, err)
	}
	if n, _ := array.Length(h, w.n["array"]); n != 6 {
		t.Errorf("its length is %d", n)
	}
	if ok, err := h.DefineOwnProperty(p, str("length"), api.Desc{Value: num(1.5)}); ok || !sameError(err, &api.Thrown{Kind: api.XRange}) {
		t.Errorf("%v, %v", ok, err)
	}
	if ok, err := h.Set(p, str("length"), num(1), ref(p)); !ok || err != nil {
		t.Errorf("%v, %v", ok, err)
	}
	if l, _ := array.Values(h, w.n["array"], 9); len(l) != 1 || l[0] != num(5) {
		t.Errorf("its elements are %v", l)
	}
	q := of(t, h, w.n["mapped"], handler)
	// The receiver is the proxy: the parameter changes by the definition, not by the Set.
	if ok, err := h.Set(q, str("1"), num(8), ref(q)); !ok || err != nil {
		t.Errorf("%v, %v", ok, err)
	}
	if v, _ := args.Slot(h, w.n["mapped"], "b"); v != num(8) {
		t.Errorf("its parameter is %v", v)
	}
	r := of(t, h, w.n["typed"], handler)
	if ok, err := h.Set(r, str("0"), num(200), ref(r)); !ok || err != nil {
		t.Errorf("%v, %v", ok, err)
	}
	if v, err := h.Get(r, str("0"), ref(r)); v != num(-56) || err != nil {
		t.Errorf("%v, %v", v, err)
	}
}

// lied is a trap's answer of a target, and whether it can be told.
type lied struct {
	class  string
	act    act
	trap   string
	answer func(w world) api.Value
	ok     bool
}

func always(v api.Value) func(w world) api.Value { return func(world) api.Value { return v } }

// listing is an array of these keys.
func listing(l ...string) func(w world) api.Value {
	return func(w world) api.Value {
		n, err := array.Of(w.h, null(), texts(l...))
		return ref(made(w.t, n, err))
	}
}

// describing is an object that tells a descriptor.
func describing(d api.Desc) func(w world) api.Value {
	return func(w world) api.Value {
		l, _ := fields(d)
		return ref(ordinary(w.t, w.h, null(), l...))
	}
}

func lies() []lied {
	length, zero := str("length"), str("0")
	return []lied{
		// The length of an array is not configurable, but can be written.
		{"array", gets(0, length, null()), "get", always(num(77)), true},
		{"array", hasProp(0, length), "has", always(no()), false},
		{"array", hasProp(0, zero), "has", always(no()), true},
		{"array", deletes(0, length), "deleteProperty", always(yes()), false},
		{"array", sets(0, length, num(77), null()), "set", always(yes()), true},
		{"array", keysOf(0), "ownKeys", listing("length"), true},
		{"array", keysOf(0), "ownKeys", listing("0", "1", "2"), false},
		{"array", getOwn(0, length), "getOwnPropertyDescriptor", describing(data(num(9), api.Yes, api.No, api.No)), true},
		{"array", getOwn(0, length), "getOwnPropertyDescriptor", describing(data(num(3), api.No, api.No, api.No)), false},
		{"array", getOwn(0, length), "getOwnPropertyDescriptor", describing(data(num(3), api.Yes, api.No, api.Yes)), false},
		{"array", defines(0, length, api.Desc{Writable: api.No}), "defineProperty", always(yes()), false},
		{"array", defines(0, length, api.Desc{Value: text("x")}), "defineProperty", always(yes()), true},
		// The units of a String object are fixed, and so is its length.
		{"string", gets(0, zero, null()), "get", always(text("a")), true},
		{"string", gets(0, zero, null()), "get", always(text("b")), false},
		{"string", gets(0, length, null()), "get", always(num(2)), true},
		{"string", gets(0, length, null()), "get", always(num(3)), false},
		{"string", gets(0, str("2"), null()), "get", always(text("c")), true},
		{"string", hasProp(0, str("1")), "has", always(no()), false},
		{"string", sets(0, zero, text("x"), null()), "set", always(yes()), false},
		{"string", sets(0, zero, text("a"), null()), "set", always(yes()), true},
		{"string", keysOf(0), "ownKeys", listing("x", "length", "1", "0"), true},
		{"string", keysOf(0), "ownKeys", listing("length", "1"), false},
		{"string", keysOf(0), "ownKeys", listing("0", "1"), false},
		{"string", getOwn(0, zero), "getOwnPropertyDescriptor", describing(shut(text("a"))), true},
		{"string", getOwn(0, zero), "getOwnPropertyDescriptor", always(undefined()), false},
		// Elements of a typed array are configurable: any of them may be told as none, while it is extensible.
		{"typed", gets(0, zero, null()), "get", always(text("x")), true},
		{"typed", hasProp(0, zero), "has", always(no()), true},
		{"typed", keysOf(0), "ownKeys", listing("y"), true},
		{"typed", getOwn(0, str("9")), "getOwnPropertyDescriptor", describing(open(num(1))), true},
		{"typed", getOwn(0, zero), "getOwnPropertyDescriptor", describing(shut(num(0))), false},
		// An unmapped arguments object's callee is an accessor that is not configurable.
		{"unmapped", gets(0, str("callee"), null()), "get", always(num(1)), true},
		{"unmapped", sets(0, str("callee"), num(1), null()), "set", always(yes()), true},
		{"unmapped", deletes(0, str("callee")), "deleteProperty", always(yes()), false},
		{"unmapped", keysOf(0), "ownKeys", listing("callee"), true},
		{"unmapped", keysOf(0), "ownKeys", listing(), false},
		// A mapped one's properties are configurable.
		{"mapped", keysOf(0), "ownKeys", listing(), true},
		{"mapped", gets(0, zero, null()), "get", always(num(9)), true},
		{"mapped", getOwn(0, zero), "getOwnPropertyDescriptor", describing(open(num(9))), true},
		// Functions have what any object has.
		{"function", keysOf(0), "ownKeys", listing("a", "b"), true},
		{"class", deletes(0, str("prototype")), "deleteProperty", always(yes()), true},
		{"bound", gets(0, length, null()), "get", always(text("x")), true},
		{"bound", deletes(0, str("name")), "deleteProperty", always(yes()), true},
		{"bound class", keysOf(0), "ownKeys", listing(), true},
		{"ordinary", gets(0, str("b"), null()), "get", always(num(3)), false},
		{"ordinary", gets(0, str("c"), null()), "get", always(undefined()), true},
		{"ordinary", gets(0, str("c"), null()), "get", always(null()), false},
		{"ordinary", gets(0, str("fixed"), null()), "get", always(num(3)), true}, // it is inherited
		{"ordinary", keysOf(0), "ownKeys", listing("c", "b"), true},
		{"ordinary", keysOf(0), "ownKeys", listing("a", "b"), false},
		// A proxy of an array is as fixed as the array.
		{"proxy", hasProp(0, length), "has", always(no()), false},
		{"proxy", keysOf(0), "ownKeys", listing("0"), false},
		{"proxy", keysOf(0), "ownKeys", listing("length"), true},
	}
}

// No trap lies about what a target of any class has promised, also through a second proxy without traps, in front of the first one or behind it.
func TestTrapsOverEveryClass(t *testing.T) {
	for i, x := range lies() {
		for row := range 3 {
			w := newWorld(t, 1000)
			bare := ordinary(t, w.h, null())
			target := w.n[x.class]
			if row == 1 {
				target = of(t, w.h, target, bare)
			}
			p := of(t, w.h, target, ordinary(t, w.h, null(), has(x.trap, ref(giving(t, w.h, x.answer(w))))))
			if row == 2 {
				p = of(t, w.h, p, bare)
			}
			before := w.h.Shapes()
			_, err := x.act.of(p).played(w.h)
			if x.ok && err != nil || !x.ok && !sameError(err, typeError()) {
				t.Errorf("%s: %s: %s of %v: %v", strconv.Itoa(i), x.class, x.act.name, x.act.k, err)
			}
			if after := w.h.Shapes(); !sameShapes(before, after[:len(before)]) {
				t.Errorf("%s: something is changed: %v", x.class, after)
			}
		}
	}
}
