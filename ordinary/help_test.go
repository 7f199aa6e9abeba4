package ordinary_test

// What the tests of this layer share: short names, functions to be called, and moments of a heap held against each other.

import (
	"slices"
	"testing"

	"cameo/api"
	"cameo/heap"
)

func null() api.Value         { return api.Value{Kind: api.KNull} }
func undefined() api.Value    { return api.Value{Kind: api.KUndefined} }
func num(x float64) api.Value { return api.Value{Kind: api.KNum, Num: x} }
func text(s string) api.Value { return api.Value{Kind: api.KStr, Str: s} }
func ref(n int) api.Value     { return api.Value{Kind: api.KRef, Id: n} }
func str(s string) api.Key    { return api.Key{Str: s} }
func sym(n int) api.Key       { return api.Key{Sym: n} }

// data and accessor are whole descriptors; flags are a string of those that are Yes: w, e, c.
func data(v api.Value, flags string) api.Desc {
	return api.Desc{Value: v, Writable: yes(flags, 'w'), Enumerable: yes(flags, 'e'), Configurable: yes(flags, 'c')}
}

func accessor(get, set api.Value, flags string) api.Desc {
	return api.Desc{Get: get, Set: set, Enumerable: yes(flags, 'e'), Configurable: yes(flags, 'c')}
}

func yes(flags string, c byte) api.Tri {
	if slices.Contains([]byte(flags), c) {
		return api.Yes
	}
	return api.No
}

// act is what a function does.
type act func(h *heap.Heap, f int, this api.Value, args []api.Value) (api.Value, error)

// function is objects that can be called: what they do is what their class alone has.
type function struct{ heap.Ordinary }

func (function) Call(h *heap.Heap, f int, this api.Value, args []api.Value) (api.Value, error) {
	return h.Own(f).(act)(h, f, this, args)
}

func addFunction(t *testing.T, h *heap.Heap, a act) int {
	t.Helper()
	n, err := h.Add(api.CNative, null(), function{}, a)
	if err != nil {
		t.Fatal(err)
	}
	return n
}

// addProxy is an object of which it is nobody's matter what its prototype is.
func addProxy(t *testing.T, h *heap.Heap, proto api.Value) int {
	t.Helper()
	n, err := h.Add(api.CProxy, proto, heap.Ordinary{}, nil)
	if err != nil {
		t.Fatal(err)
	}
	return n
}

func newHeap(t *testing.T, capacity, fuel, depth int) *heap.Heap {
	t.Helper()
	h, e := heap.New(capacity, fuel, depth)
	if e != api.OK {
		t.Fatal(e)
	}
	return h
}

func made(t *testing.T, h *heap.Heap, proto api.Value) int {
	t.Helper()
	n, err := h.Make(proto)
	if err != nil {
		t.Fatal(err)
	}
	return n
}

// lay puts a property there, at no cost; the zero descriptor is none.
func lay(t *testing.T, h *heap.Heap, o int, k api.Key, d api.Desc) {
	t.Helper()
	if d == (api.Desc{}) {
		return
	}
	fuel := h.Fuel()
	h.Refuel(1)
	if ok, err := h.DefineOwnProperty(o, k, d); !ok || err != nil {
		t.Fatalf("lay %d %v %v: %v, %v", o, k, d, ok, err)
	}
	h.Refuel(fuel)
}

// shut makes an object not extensible, at no cost.
func shut(t *testing.T, h *heap.Heap, o int) {
	t.Helper()
	fuel := h.Fuel()
	h.Refuel(1)
	if ok, err := h.PreventExtensions(o); !ok || err != nil {
		t.Fatalf("shut %d: %v, %v", o, ok, err)
	}
	h.Refuel(fuel)
}

func sameShape(a, b api.Shape) bool {
	return a.Class == b.Class && a.Proto == b.Proto && a.Extensible == b.Extensible && slices.Equal(a.Props, b.Props)
}

func sameShapes(a, b []api.Shape) bool { return slices.EqualFunc(a, b, sameShape) }

// yields holds an answer, its error and its cost against what they must be.
func yields[T comparable](t *testing.T, h *heap.Heap, name string, cost int, want T, call func() (T, error)) {
	t.Helper()
	was := h.Fuel()
	if got, err := call(); got != want || err != nil || was-h.Fuel() != cost {
		t.Errorf("%s: %v, %v, %d spent; want %v, %d spent", name, got, err, was-h.Fuel(), want, cost)
	}
}
