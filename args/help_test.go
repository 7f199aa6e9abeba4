package args_test

// What the tests of this layer share: short names for values, heaps with arguments objects, and all that is told of one of these.

import (
	"errors"
	"math"
	"slices"
	"strings"
	"testing"

	"cameo/api"
	"cameo/args"
	"cameo/call"
	"cameo/heap"
)

func undefined() api.Value    { return api.Value{Kind: api.KUndefined} }
func null() api.Value         { return api.Value{Kind: api.KNull} }
func yes() api.Value          { return api.Value{Kind: api.KBool, Bool: true} }
func no() api.Value           { return api.Value{Kind: api.KBool} }
func num(x float64) api.Value { return api.Value{Kind: api.KNum, Num: x} }
func text(s string) api.Value { return api.Value{Kind: api.KStr, Str: s} }
func symbol(n int) api.Value  { return api.Value{Kind: api.KSym, Id: n} }
func ref(n int) api.Value     { return api.Value{Kind: api.KRef, Id: n} }
func str(s string) api.Key    { return api.Key{Str: s} }
func sym(n int) api.Key       { return api.Key{Sym: n} }

var nan, below0, endless = math.NaN(), math.Copysign(0, -1), math.Inf(1)

// data and accessor are whole descriptors; flags are those that are Yes: w, e, c.
func data(v api.Value, flags string) api.Desc {
	return api.Desc{Value: v, Writable: flag(flags, "w"), Enumerable: flag(flags, "e"), Configurable: flag(flags, "c")}
}

func accessor(get, set api.Value, flags string) api.Desc {
	return api.Desc{Get: get, Set: set, Enumerable: flag(flags, "e"), Configurable: flag(flags, "c")}
}

func flag(flags, c string) api.Tri {
	if strings.Contains(flags, c) {
		return api.Yes
	}
	return api.No
}

// plain is values of every kind that are no objects.
func plain() []api.Value {
	return []api.Value{
		undefined(), null(), no(), yes(), num(0), num(below0), num(1), num(-0.5), num(1e300), num(nan), num(endless), num(-endless),
		text(""), text("0"), text("a"), text("\xed\xa0\xbd"), text("\U0001f600"), symbol(1), symbol(65536),
	}
}

// broken is values that are not well formed; those with long strings, which take their time, are in long.
func broken() []api.Value {
	return []api.Value{
		{}, {Kind: 8}, {Kind: -1}, {Num: 1}, {Id: 1}, {Kind: api.KUndefined, Num: 1}, {Kind: api.KNull, Id: 3}, {Kind: api.KNull, Num: below0}, {Kind: api.KBool, Str: "a"}, {Kind: api.KNum, Bool: true},
		{Kind: api.KStr, Id: 1}, {Kind: api.KStr, Str: "\xff"}, {Kind: api.KStr, Str: "\xed\xa0\xbd\xed\xb8\x80"},
		{Kind: api.KSym}, {Kind: api.KSym, Id: 65537}, {Kind: api.KSym, Id: 1, Num: 2},
		{Kind: api.KRef}, {Kind: api.KRef, Id: -1}, {Kind: api.KRef, Id: 65537}, {Kind: api.KRef, Id: 1, Str: "a"}, {Kind: api.KRef, Id: 1, Bool: true},
	}
}

func long() string { return strings.Repeat("x", api.MaxStr+1) }

func newHeap(t *testing.T, capacity, fuel, depth int) *heap.Heap {
	t.Helper()
	h, e := heap.New(capacity, fuel, depth)
	if e != api.OK {
		t.Fatal(e)
	}
	return h
}

func made(t *testing.T, h *heap.Heap, proto api.Value) int {
	t.Helper()
	n, err := h.Make(proto)
	if err != nil {
		t.Fatal(err)
	}
	return n
}

// fn is a function of operations.
func fn(t *testing.T, h *heap.Heap, body ...api.Op) api.Value {
	t.Helper()
	n, err := call.New(h, null(), body, false)
	if err != nil {
		t.Fatal(err)
	}
	return ref(n)
}

// native is a function that is a function of Go: a call of it costs one unit.
type native struct{ heap.Ordinary }

type does func(h *heap.Heap, this api.Value, given []api.Value) (api.Value, error)

func (native) Call(h *heap.Heap, f int, this api.Value, given []api.Value) (api.Value, error) {
	return h.Own(f).(does)(h, this, given)
}

func addNative(t *testing.T, h *heap.Heap, d does) api.Value {
	t.Helper()
	n, err := h.Add(api.CNative, null(), native{}, d)
	if err != nil {
		t.Fatal(err)
	}
	return ref(n)
}

// numbers is so many values: 1, 2, 3 and so on.
func numbers(n int) []api.Value {
	var l []api.Value
	for i := range n {
		l = append(l, num(float64(i+1)))
	}
	return l
}

// mapped is a new mapped arguments object with the prototype null and the callee null; names are letters.
func mapped(t *testing.T, h *heap.Heap, names string, l ...api.Value) int {
	t.Helper()
	o, err := args.Mapped(h, null(), l, letters(names), null())
	if err != nil {
		t.Fatal(err)
	}
	return o
}

func unmapped(t *testing.T, h *heap.Heap, l ...api.Value) int {
	t.Helper()
	o, err := args.Unmapped(h, null(), l, undefined())
	if err != nil {
		t.Fatal(err)
	}
	return o
}

func letters(s string) []string {
	if s == "" {
		return nil
	}
	return strings.Split(s, "")
}

// define defines a property, at no cost.
func define(t *testing.T, h *heap.Heap, o int, k api.Key, d api.Desc) {
	t.Helper()
	free(t, h, func() (bool, error) { return h.DefineOwnProperty(o, k, d) })
}

func shut(t *testing.T, h *heap.Heap, o int) {
	t.Helper()
	free(t, h, func() (bool, error) { return h.PreventExtensions(o) })
}

// free does what must be true, at no cost.
func free(t *testing.T, h *heap.Heap, do func() (bool, error)) {
	t.Helper()
	fuel := h.Fuel()
	h.Refuel(10)
	if ok, err := do(); !ok || err != nil {
		t.Fatalf("%v, %v", ok, err)
	}
	h.Refuel(fuel)
}

// yields holds an answer, its error and its cost against what they must be.
func yields[T comparable](t *testing.T, h *heap.Heap, name string, cost int, want T, call func() (T, error)) {
	t.Helper()
	was := h.Fuel()
	if got, err := call(); got != want || err != nil || was-h.Fuel() != cost {
		t.Errorf("%s: %v, %v, %d spent; want %v, %d spent", name, got, err, was-h.Fuel(), want, cost)
	}
}

// has holds a parameter's value against what it must be.
func has(t *testing.T, h *heap.Heap, o int, name string, want api.Value) {
	t.Helper()
	fuel := h.Fuel()
	if v, e := args.Slot(h, o, name); !sameValue(v, want) || e != api.OK || h.Fuel() != fuel {
		t.Errorf("Slot(%d, %s): %v, %v; want %v", o, name, v, e, want)
	}
}

// give gives a parameter a value.
func give(t *testing.T, h *heap.Heap, o int, name string, v api.Value) {
	t.Helper()
	fuel := h.Fuel()
	if e := args.SetSlot(h, o, name, v); e != api.OK || h.Fuel() != fuel {
		t.Errorf("SetSlot(%d, %s): %v", o, name, e)
	}
}

// tied holds what an index is tied to against what it must be: nothing is tied to no name.
func tied(t *testing.T, h *heap.Heap, o, i int, want string) {
	t.Helper()
	fuel := h.Fuel()
	if s, ok, e := args.Linked(h, o, i); s != want || ok != (want != "") || e != api.OK || h.Fuel() != fuel {
		t.Errorf("Linked(%d, %d): %q, %v, %v; want %q", o, i, s, ok, e, want)
	}
}

// tells holds what an object tells of a key, by Get, GetOwnProperty and both kinds of shapes, against what it must be. The zero descriptor is none.
func tells(t *testing.T, h *heap.Heap, o int, k api.Key, want api.Desc) {
	t.Helper()
	fuel := h.Fuel()
	defer h.Refuel(fuel)
	h.Refuel(100)
	d, ok, err := h.GetOwnProperty(o, k)
	if !sameDesc(d, want) || ok != (want != api.Desc{}) || err != nil {
		t.Errorf("GetOwnProperty(%d, %v): %v, %v, %v; want %v", o, k, d, ok, err, want)
	}
	s, _ := h.Shape(o)
	if all := h.Shapes()[o-1]; !sameDesc(lying(s, k), want) || !sameDesc(lying(all, k), want) {
		t.Errorf("Shape(%d), %v: %v, %v; want %v", o, k, lying(s, k), lying(all, k), want)
	}
	if want.Writable == api.Absent {
		return
	}
	for _, receiver := range []api.Value{ref(o), undefined(), ref(1), num(1)} {
		if v, err := h.Get(o, k, receiver); !sameValue(v, want.Value) || err != nil {
			t.Errorf("Get(%d, %v, %v): %v, %v; want %v", o, k, receiver, v, err, want.Value)
		}
	}
}

func lying(s api.Shape, k api.Key) api.Desc {
	for _, p := range s.Props {
		if p.Key == k {
			return p.Desc
		}
	}
	return api.Desc{}
}

// slot is a parameter, and the index that is tied to it, -1, if none is.
type slot struct {
	name  string
	value api.Value
	index int
}

// slots is all that a mapped arguments object alone has; nothing of any other object.
func slots(h *heap.Heap, o int) []slot { return slotsBelow(h, o, api.MaxArgs+1) }

// slotsBelow is the same, where no index is tied that is not below n.
func slotsBelow(h *heap.Heap, o, n int) []slot {
	names, _ := args.Names(h, o)
	var l []slot
	for _, s := range names {
		v, _ := args.Slot(h, o, s)
		l = append(l, slot{s, v, -1})
	}
	for i := -1; i < n && len(l) > 0; i++ {
		s, ok, _ := args.Linked(h, o, i)
		if at := slices.IndexFunc(l, func(x slot) bool { return x.name == s }); ok && at >= 0 {
			l[at].index = i
		}
	}
	return l
}

// moment is all that a heap has: what its shapes tell, and what its arguments objects alone have.
type moment struct {
	shapes []api.Shape
	slots  [][]slot
}

func now(h *heap.Heap) moment {
	m := moment{shapes: h.Shapes()}
	for o := range h.Len() {
		m.slots = append(m.slots, slots(h, o+1))
	}
	return m
}

func sameMoment(a, b moment) bool {
	return slices.EqualFunc(a.shapes, b.shapes, sameShape) && slices.EqualFunc(a.slots, b.slots, func(x, y []slot) bool { return slices.EqualFunc(x, y, sameSlot) })
}

func sameSlot(a, b slot) bool {
	return a.name == b.name && sameValue(a.value, b.value) && a.index == b.index
}

func sameValue(a, b api.Value) bool {
	return a == b && math.Signbit(a.Num) == math.Signbit(b.Num) || a.Kind == api.KNum && b.Kind == api.KNum && a.Num != a.Num && b.Num != b.Num
}

func sameDesc(a, b api.Desc) bool {
	return sameValue(a.Value, b.Value) && a.Get == b.Get && a.Set == b.Set && a.Writable == b.Writable && a.Enumerable == b.Enumerable && a.Configurable == b.Configurable
}

func sameShape(a, b api.Shape) bool {
	same := func(p, q api.Prop) bool { return p.Key == q.Key && sameDesc(p.Desc, q.Desc) }
	return a.Class == b.Class && a.Proto == b.Proto && a.Extensible == b.Extensible && slices.EqualFunc(a.Props, b.Props, same)
}

// sameError tells whether two errors are both none, the same number, or throws of the same.
func sameError(a, b error) bool {
	var x, y *api.Thrown
	if errors.As(a, &x) && errors.As(b, &y) {
		return x.Kind == y.Kind && sameValue(x.Value, y.Value)
	}
	return a == b
}
