package call_test

// What the tests of this layer share: short names for values and operations, heaps, and answers held against what they must be.

import (
	"errors"
	"math"
	"slices"
	"testing"

	"cameo/api"
	"cameo/call"
	"cameo/heap"
)

func undefined() api.Value    { return api.Value{Kind: api.KUndefined} }
func null() api.Value         { return api.Value{Kind: api.KNull} }
func yes() api.Value          { return api.Value{Kind: api.KBool, Bool: true} }
func no() api.Value           { return api.Value{Kind: api.KBool} }
func num(x float64) api.Value { return api.Value{Kind: api.KNum, Num: x} }
func text(s string) api.Value { return api.Value{Kind: api.KStr, Str: s} }
func symbol(n int) api.Value  { return api.Value{Kind: api.KSym, Id: n} }
func ref(n int) api.Value     { return api.Value{Kind: api.KRef, Id: n} }
func str(s string) api.Key    { return api.Key{Str: s} }
func sym(n int) api.Key       { return api.Key{Sym: n} }
func open(v api.Value) api.Desc {
	return api.Desc{Value: v, Writable: api.Yes, Enumerable: api.Yes, Configurable: api.Yes}
}

// broken is values that are not well formed.
func broken() []api.Value {
	return []api.Value{
		{}, {Kind: 8}, {Kind: -1}, {Num: 1}, {Id: 1}, {Kind: api.KUndefined, Num: 1}, {Kind: api.KNull, Id: 3}, {Kind: api.KNull, Num: math.Copysign(0, -1)}, {Kind: api.KBool, Str: "a"}, {Kind: api.KNum, Bool: true},
		{Kind: api.KStr, Id: 1}, {Kind: api.KStr, Str: "\xff"}, {Kind: api.KSym}, {Kind: api.KSym, Id: 65537}, {Kind: api.KSym, Id: 1, Num: 2},
		{Kind: api.KRef}, {Kind: api.KRef, Id: -1}, {Kind: api.KRef, Id: 65537}, {Kind: api.KRef, Id: 1, Str: "a"}, {Kind: api.KRef, Id: 1, Bool: true},
	}
}

func brokenKeys() []api.Key {
	return []api.Key{str("\xff"), str("\xed\xa0\xbd\xed\xb8\x80"), {Str: "a", Sym: 1}, sym(-1), sym(65537), sym(math.MinInt)}
}

// brokenDescs is descriptors that are not well formed.
func brokenDescs() []api.Desc {
	l := []api.Desc{
		{Writable: 3}, {Writable: -1}, {Enumerable: 3}, {Enumerable: -1}, {Configurable: 3}, {Configurable: -1},
		{Get: null()}, {Get: num(1)}, {Set: text("x")}, {Set: yes()},
		{Value: num(1), Get: undefined()}, {Value: num(1), Set: ref(1)}, {Writable: api.No, Get: ref(1)}, {Writable: api.Yes, Set: undefined()},
	}
	for _, v := range broken()[1:] {
		l = append(l, api.Desc{Value: v}, api.Desc{Get: v}, api.Desc{Set: v})
	}
	return l
}

// op is an operation over registers: To, A, B, C, as many as are given.
func op(code int, regs ...int) api.Op {
	regs = append(regs, 0, 0, 0, 0)
	return api.Op{Code: code, To: regs[0], A: regs[1], B: regs[2], C: regs[3]}
}

// at is an operation with a key.
func at(k api.Key, o api.Op) api.Op {
	o.Key = k
	return o
}

func caught(o api.Op) api.Op {
	o.Catch = true
	return o
}

func constant(to int, v api.Value) api.Op { return api.Op{Code: api.OConst, To: to, Val: v} }

func give(a int) api.Op { return op(api.OReturn, 0, a) }

func throw(a int) api.Op { return op(api.OThrow, 0, a) }

func newHeap(t *testing.T, capacity, fuel, depth int) *heap.Heap {
	t.Helper()
	h, e := heap.New(capacity, fuel, depth)
	if e != api.OK {
		t.Fatal(e)
	}
	return h
}

func made(t *testing.T, h *heap.Heap, proto api.Value) int {
	t.Helper()
	n, err := h.Make(proto)
	if err != nil {
		t.Fatal(err)
	}
	return n
}

func fn(t *testing.T, h *heap.Heap, body ...api.Op) int {
	t.Helper()
	return function(t, h, false, body)
}

func ctor(t *testing.T, h *heap.Heap, body ...api.Op) int {
	t.Helper()
	return function(t, h, true, body)
}

func function(t *testing.T, h *heap.Heap, ctor bool, body []api.Op) int {
	t.Helper()
	n, err := call.New(h, null(), body, ctor)
	if err != nil {
		t.Fatalf("11.2: %v of %v", err, body)
	}
	return n
}

// lay puts a property there, at no cost.
func lay(t *testing.T, h *heap.Heap, o int, k api.Key, d api.Desc) {
	t.Helper()
	fuel := h.Fuel()
	h.Refuel(1)
	if ok, err := h.DefineOwnProperty(o, k, d); !ok || err != nil {
		t.Fatalf("lay %d %v %v: %v, %v", o, k, d, ok, err)
	}
	h.Refuel(fuel)
}

// native is a function that is no matter of this layer: what it does is a function of Go.
type native struct{ heap.Ordinary }

type does func(h *heap.Heap, this api.Value, args []api.Value) (api.Value, error)

func (native) Call(h *heap.Heap, f int, this api.Value, args []api.Value) (api.Value, error) {
	return h.Own(f).(does)(h, this, args)
}

func addNative(t *testing.T, h *heap.Heap, d does) int {
	t.Helper()
	n, err := h.Add(api.CNative, null(), native{}, d)
	if err != nil {
		t.Fatal(err)
	}
	return n
}

func sameShape(a, b api.Shape) bool {
	return a.Class == b.Class && a.Proto == b.Proto && a.Extensible == b.Extensible && slices.Equal(a.Props, b.Props)
}

func sameShapes(a, b []api.Shape) bool { return slices.EqualFunc(a, b, sameShape) }

// sameError tells whether two errors are both none, the same number, or throws of the same.
func sameError(a, b error) bool {
	var x, y *api.Thrown
	if errors.As(a, &x) && errors.As(b, &y) {
		return *x == *y
	}
	return a == b
}

func typeError() error               { return &api.Thrown{Kind: api.XType} }
func thrown(v api.Value) error       { return &api.Thrown{Kind: api.XValue, Value: v} }
func asThrown(err error) *api.Thrown { t, _ := err.(*api.Thrown); return t }

// calls calls a function, and holds what comes of it, and what it costs, against what these must be.
func calls(t *testing.T, h *heap.Heap, name string, cost int, want api.Value, wrong error, f int, this api.Value, args ...api.Value) {
	t.Helper()
	was := h.Fuel()
	v, err := h.Call(f, this, args)
	if v != want || !sameError(err, wrong) || was-h.Fuel() != cost {
		t.Errorf("%s: %v, %v, %d spent; want %v, %v, %d spent", name, v, err, was-h.Fuel(), want, wrong, cost)
	}
}
