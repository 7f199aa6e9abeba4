package iterate_test

// A heap with objects of every class that the layers below make, by names.

import (
	"testing"

	"cameo/api"
	"cameo/args"
	"cameo/array"
	"cameo/bound"
	"cameo/call"
	"cameo/heap"
	"cameo/namespace"
	"cameo/proxy"
	"cameo/strobj"
	"cameo/typed"
)

// world is the heap, and the objects' numbers by their names.
type world struct {
	t *testing.T
	h *heap.Heap
	n map[string]int
}

// add names an object that has just been made.
func (w world) add(name string, n int, err error) int {
	w.t.Helper()
	w.n[name] = made(w.t, n, err)
	return n
}

func newWorld(t *testing.T, fuel, depth int) world {
	t.Helper()
	w := world{t, newHeap(t, 120, 1<<20, depth), map[string]int{}}
	h := w.h
	base := w.add("base", object(t, h, null(), has("base", num(1))), nil)
	w.ordinary(ref(base))
	w.functions(ref(base))
	w.arrays(ref(base))
	w.arguments(ref(base))
	w.strings(ref(base))
	w.typed(ref(base))
	w.namespaces()
	h.Refuel(fuel)
	return w
}

func (w world) ordinary(base api.Value) {
	t, h := w.t, w.h
	f := w.add("getter", giving(t, h, num(5)), nil)
	w.add("empty", object(t, h, base), nil)
	w.add("one", object(t, h, base, has("a", num(1))), nil)
	w.add("many", object(t, h, null(), has("b", num(1)), got("a", f), is("7", data(base, "w")), marked(3, data(text("x"), "c")), is("0", accessor(undefined(), undefined(), "e")), is("", data(undefined(), "")), marked(1, data(num(nan), "wc"))), nil)
	w.add("shut", fixed(t, h, base, has("a", num(1)), got("b", f)), nil)
	w.add("sealed", fixed(t, h, base, is("a", data(num(1), "we")), is("b", accessor(ref(f), undefined(), "e"))), nil)
	w.add("frozen", fixed(t, h, base, is("a", data(num(1), "e")), is("b", accessor(ref(f), undefined(), "e"))), nil)
	w.add("child", object(t, h, ref(w.n["frozen"]), has("c", num(1))), nil)
}

func (w world) functions(base api.Value) {
	body := []api.Op{{Code: api.OThis}, {Code: api.OReturn}}
	n, err := call.New(w.h, base, body, false)
	w.add("function", n, err)
	n, err = call.New(w.h, base, body, true)
	w.add("class", n, err)
	lay(w.t, w.h, n, is("prototype", data(base, "w")))
	w.add("native", giving(w.t, w.h, num(1)), nil)
	n, err = bound.Bind(w.h, w.n["function"], num(7), nil)
	w.add("bound", n, err)
	n, err = bound.Bind(w.h, w.n["class"], num(7), []api.Value{num(1)})
	w.add("bound class", n, err)
	lay(w.t, w.h, n, has("more", base))
}

func (w world) arrays(base api.Value) {
	l := []api.Value{num(7), text("x"), base}
	for _, name := range []string{"array", "short array", "described array"} {
		n, err := array.Of(w.h, base, l)
		w.add(name, n, err)
	}
	lay(w.t, w.h, w.n["short array"], is("length", api.Desc{Writable: api.No}))
	lay(w.t, w.h, w.n["described array"], is("1", api.Desc{Configurable: api.No}), is("2", accessor(undefined(), undefined(), "c")))
	n, err := array.New(w.h, base, 0)
	w.add("empty array", n, err)
	n, err = array.New(w.h, base, api.MaxLength)
	w.add("long array", n, err)
	lay(w.t, w.h, n, has("4294967294", num(1)), has("3", num(2)))
}

func (w world) arguments(base api.Value) {
	l, names := []api.Value{num(7), text("x"), base}, []string{"a", "b"}
	n, err := args.Mapped(w.h, base, l, names, ref(w.n["function"]))
	w.add("mapped", n, err)
	n, err = args.Mapped(w.h, base, l, names, undefined())
	w.add("loosened", n, err)
	if ok, err := w.h.DefineOwnProperty(n, str("1"), api.Desc{Writable: api.No}); !ok || err != nil {
		w.t.Fatal(err)
	}
	n, err = args.Mapped(w.h, base, nil, names, undefined())
	w.add("bare mapped", n, err)
	n, err = args.Unmapped(w.h, base, l, ref(w.n["function"]))
	w.add("unmapped", n, err)
}

func (w world) strings(base api.Value) {
	n, err := strobj.New(w.h, base, "\U0001f600")
	w.add("string", n, err)
	n, err = strobj.New(w.h, base, "")
	w.add("empty string", n, err)
	n, err = strobj.New(w.h, base, "ab")
	w.add("described string", n, err)
	lay(w.t, w.h, n, has("a", num(1)), has("5", base), marked(3, accessor(undefined(), undefined(), "e")))
}

func (w world) typed(base api.Value) {
	buffer := func(name string) int {
		w.t.Helper()
		n, err := typed.Buffer(w.h, base, 8)
		w.add(name, n, err)
		lay(w.t, w.h, n, has("a", num(1)))
		return n
	}
	elements := func(name string, b, length int) {
		w.t.Helper()
		n, err := typed.New(w.h, base, b, api.TInt16, 2, length)
		w.add(name, n, err)
		lay(w.t, w.h, n, has("a", num(1)))
	}
	elements("elements", buffer("buffer"), 3)
	elements("no elements", w.n["buffer"], 0)
	elements("detached", buffer("gone"), 3)
	if e := typed.Detach(w.h, w.n["gone"]); e != api.OK {
		w.t.Fatal(e)
	}
}

func (w world) namespaces() {
	for i, name := range []string{"no exports", "bound exports", "exports"} {
		n, err := namespace.New(w.h, []string{"b", "a"}[:min(i, 1)*2])
		w.add(name, n, err)
	}
	for _, name := range []string{"a", "b"} {
		namespace.Bind(w.h, w.n["bound exports"], name, text("of "+name))
	}
	namespace.Bind(w.h, w.n["exports"], "a", num(1))
}

// proxy is a proxy of the object with that name, whose handler has no traps.
func (w world) proxy(target int) int {
	w.t.Helper()
	return proxied(w.t, w.h, target, object(w.t, w.h, null()))
}

// revoked is one that has neither target nor handler any more.
func (w world) revoked(target int) int {
	w.t.Helper()
	n := w.proxy(target)
	w.revoke(n)
	return n
}

func (w world) revoke(n int) {
	w.t.Helper()
	if e := proxy.Revoke(w.h, n); e != api.OK {
		w.t.Fatal(e)
	}
}
