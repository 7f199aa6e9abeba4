package array_test

// What the tests of this layer share: short names for values, heaps with arrays, and all that is told of one of these.

import (
	"errors"
	"math"
	"slices"
	"strconv"
	"strings"
	"testing"

	"cameo/api"
	"cameo/array"
	"cameo/call"
	"cameo/heap"
)

func undefined() api.Value    { return api.Value{Kind: api.KUndefined} }
func null() api.Value         { return api.Value{Kind: api.KNull} }
func yes() api.Value          { return api.Value{Kind: api.KBool, Bool: true} }
func no() api.Value           { return api.Value{Kind: api.KBool} }
func num(x float64) api.Value { return api.Value{Kind: api.KNum, Num: x} }
func text(s string) api.Value { return api.Value{Kind: api.KStr, Str: s} }
func symbol(n int) api.Value  { return api.Value{Kind: api.KSym, Id: n} }
func ref(n int) api.Value     { return api.Value{Kind: api.KRef, Id: n} }
func str(s string) api.Key    { return api.Key{Str: s} }
func sym(n int) api.Key       { return api.Key{Sym: n} }
func at(n int) api.Key        { return str(strconv.Itoa(n)) }

var nan, below0, endless = math.NaN(), math.Copysign(0, -1), math.Inf(1)

// The errors that are thrown.
func rangeError() error { return &api.Thrown{Kind: api.XRange} }
func typeError() error  { return &api.Thrown{Kind: api.XType} }

// data and accessor are whole descriptors; flags are those that are Yes: w, e, c.
func data(v api.Value, flags string) api.Desc {
	return api.Desc{Value: v, Writable: flag(flags, "w"), Enumerable: flag(flags, "e"), Configurable: flag(flags, "c")}
}

func accessor(get, set api.Value, flags string) api.Desc {
	return api.Desc{Get: get, Set: set, Enumerable: flag(flags, "e"), Configurable: flag(flags, "c")}
}

func flag(flags, c string) api.Tri {
	if strings.Contains(flags, c) {
		return api.Yes
	}
	return api.No
}

// plain is values of every kind that are no objects.
func plain() []api.Value {
	return []api.Value{
		undefined(), null(), no(), yes(), num(0), num(below0), num(1), num(-0.5), num(1e300), num(nan), num(endless), num(-endless),
		text(""), text("0"), text("a"), text("\xed\xa0\xbd"), text("\U0001f600"), symbol(1), symbol(65536),
	}
}

// broken is values that are not well formed.
func broken() []api.Value {
	return []api.Value{
		{}, {Kind: 8}, {Kind: -1}, {Num: 1}, {Id: 1}, {Kind: api.KUndefined, Num: 1}, {Kind: api.KNull, Id: 3}, {Kind: api.KNull, Num: below0}, {Kind: api.KBool, Str: "a"}, {Kind: api.KNum, Bool: true},
		{Kind: api.KStr, Id: 1}, {Kind: api.KStr, Str: "\xff"}, {Kind: api.KStr, Str: "\xed\xa0\xbd\xed\xb8\x80"},
		{Kind: api.KSym}, {Kind: api.KSym, Id: 65537}, {Kind: api.KSym, Id: 1, Num: 2},
		{Kind: api.KRef}, {Kind: api.KRef, Id: -1}, {Kind: api.KRef, Id: 65537}, {Kind: api.KRef, Id: 1, Str: "a"}, {Kind: api.KRef, Id: 1, Bool: true},
	}
}

func newHeap(t *testing.T, capacity, fuel, depth int) *heap.Heap {
	t.Helper()
	h, e := heap.New(capacity, fuel, depth)
	if e != api.OK {
		t.Fatal(e)
	}
	return h
}

func made(t *testing.T, h *heap.Heap, proto api.Value) int {
	t.Helper()
	n, err := h.Make(proto)
	if err != nil {
		t.Fatal(err)
	}
	return n
}

// fn is a function of operations.
func fn(t *testing.T, h *heap.Heap, body ...api.Op) api.Value {
	t.Helper()
	n, err := call.New(h, null(), body, false)
	if err != nil {
		t.Fatal(err)
	}
	return ref(n)
}

// native is a function that is a function of Go: a call of it costs one unit.
type native struct{ heap.Ordinary }

type does func(h *heap.Heap, this api.Value, given []api.Value) (api.Value, error)

func (native) Call(h *heap.Heap, f int, this api.Value, given []api.Value) (api.Value, error) {
	return h.Own(f).(does)(h, this, given)
}

func addNative(t *testing.T, h *heap.Heap, d does) api.Value {
	t.Helper()
	n, err := h.Add(api.CNative, null(), native{}, d)
	if err != nil {
		t.Fatal(err)
	}
	return ref(n)
}

// numbers is so many values: 1, 2, 3 and so on.
func numbers(n int) []api.Value {
	var l []api.Value
	for i := range n {
		l = append(l, num(float64(i+1)))
	}
	return l
}

// sized is a new array without elements, with the prototype null.
func sized(t *testing.T, h *heap.Heap, length int64) int {
	t.Helper()
	o, err := array.New(h, null(), length)
	if err != nil {
		t.Fatal(err)
	}
	return o
}

// listed is a new array of values, with the prototype null.
func listed(t *testing.T, h *heap.Heap, l ...api.Value) int {
	t.Helper()
	o, err := array.Of(h, null(), l)
	if err != nil {
		t.Fatal(err)
	}
	return o
}

// define defines a property, at no cost.
func define(t *testing.T, h *heap.Heap, o int, k api.Key, d api.Desc) {
	t.Helper()
	free(t, h, func() (bool, error) { return h.DefineOwnProperty(o, k, d) })
}

func shut(t *testing.T, h *heap.Heap, o int) {
	t.Helper()
	free(t, h, func() (bool, error) { return h.PreventExtensions(o) })
}

// fix makes an array's length read-only.
func fix(t *testing.T, h *heap.Heap, o int) {
	t.Helper()
	define(t, h, o, str("length"), api.Desc{Writable: api.No})
}

// free does what must be true, at no cost.
func free(t *testing.T, h *heap.Heap, do func() (bool, error)) {
	t.Helper()
	fuel := h.Fuel()
	h.Refuel(10)
	if ok, err := do(); !ok || err != nil {
		t.Fatalf("%v, %v", ok, err)
	}
	h.Refuel(fuel)
}

// defines holds what a definition answers, and what it costs, against what these must be.
func defines(t *testing.T, h *heap.Heap, o int, k api.Key, d api.Desc, want bool) {
	t.Helper()
	fuel := h.Fuel()
	if ok, err := h.DefineOwnProperty(o, k, d); ok != want || err != nil || fuel-h.Fuel() != 1 {
		t.Errorf("define %v by %v: %v, %v, %d spent; want %v", k, d, ok, err, fuel-h.Fuel(), want)
	}
}

// throws holds what a definition throws against what it must.
func throws(t *testing.T, h *heap.Heap, o int, k api.Key, d api.Desc, want error) {
	t.Helper()
	before := h.Shapes()
	if ok, err := h.DefineOwnProperty(o, k, d); ok || !sameError(err, want) {
		t.Errorf("define %v by %v: %v, %v; want %v", k, d, ok, err, want)
	}
	if !sameShapes(h.Shapes(), before) {
		t.Errorf("define %v by %v: what throws has changed something", k, d)
	}
}

// long holds an array's length against what it must be.
func long(t *testing.T, h *heap.Heap, o int, want uint32) {
	t.Helper()
	fuel := h.Fuel()
	if n, e := array.Length(h, o); n != want || e != api.OK || h.Fuel() != fuel {
		t.Errorf("Length(%d): %d, %v; want %d", o, n, e, want)
	}
	s, _ := h.Shape(o)
	if d := lying(s, str("length")); !sameValue(d.Value, num(float64(want))) || d.Enumerable != api.No || d.Configurable != api.No {
		t.Errorf("the length of %d: %v; want %d", o, d, want)
	}
}

// holds holds what lies in an array against what it must: no value, where there is none.
func holds(t *testing.T, h *heap.Heap, o int, want ...api.Value) {
	t.Helper()
	fuel := h.Fuel()
	if l, e := array.Values(h, o, api.MaxObjects); !slices.EqualFunc(l, want, sameValue) || e != api.OK || h.Fuel() != fuel {
		t.Errorf("Values(%d): %v, %v; want %v", o, l, e, want)
	}
}

// lies holds a property as it lies there against what it must be. The zero descriptor is none.
func lies(t *testing.T, h *heap.Heap, o int, k api.Key, want api.Desc) {
	t.Helper()
	s, _ := h.Shape(o)
	if d := lying(s, k); !sameDesc(d, want) {
		t.Errorf("%v of %d: %v; want %v", k, o, d, want)
	}
}

func lying(s api.Shape, k api.Key) api.Desc {
	for _, p := range s.Props {
		if p.Key == k {
			return p.Desc
		}
	}
	return api.Desc{}
}

// put writes a descriptor into what a shape tells of a key, which comes behind all, if it is new.
func put(s *api.Shape, k api.Key, d api.Desc) {
	i := slices.IndexFunc(s.Props, func(p api.Prop) bool { return p.Key == k })
	if i < 0 {
		s.Props = append(s.Props, api.Prop{Key: k, Desc: d})
		return
	}
	s.Props[i].Desc = d
}

// gone takes keys out of what a shape tells.
func gone(s *api.Shape, keys ...string) {
	s.Props = slices.DeleteFunc(s.Props, func(p api.Prop) bool { return p.Key.Sym == 0 && slices.Contains(keys, p.Key.Str) })
}

func sameValue(a, b api.Value) bool {
	return a == b && math.Signbit(a.Num) == math.Signbit(b.Num) || a.Kind == api.KNum && b.Kind == api.KNum && a.Num != a.Num && b.Num != b.Num
}

func sameDesc(a, b api.Desc) bool {
	return sameValue(a.Value, b.Value) && a.Get == b.Get && a.Set == b.Set && a.Writable == b.Writable && a.Enumerable == b.Enumerable && a.Configurable == b.Configurable
}

func sameShape(a, b api.Shape) bool {
	same := func(p, q api.Prop) bool { return p.Key == q.Key && sameDesc(p.Desc, q.Desc) }
	return a.Class == b.Class && a.Proto == b.Proto && a.Extensible == b.Extensible && slices.EqualFunc(a.Props, b.Props, same)
}

func sameShapes(a, b []api.Shape) bool { return slices.EqualFunc(a, b, sameShape) }

// sameError tells whether two errors are both none, the same number, or throws of the same.
func sameError(a, b error) bool {
	var x, y *api.Thrown
	if errors.As(a, &x) && errors.As(b, &y) {
		return x.Kind == y.Kind && sameValue(x.Value, y.Value)
	}
	return a == b
}
