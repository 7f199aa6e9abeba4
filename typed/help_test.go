package typed_test

// What the tests of this layer share: short names for values, heaps with buffers and typed arrays, and all that is told of these.

import (
	"errors"
	"math"
	"slices"
	"strconv"
	"strings"
	"testing"

	"cameo/api"
	"cameo/heap"
	"cameo/typed"
)

func undefined() api.Value    { return api.Value{Kind: api.KUndefined} }
func null() api.Value         { return api.Value{Kind: api.KNull} }
func yes() api.Value          { return api.Value{Kind: api.KBool, Bool: true} }
func no() api.Value           { return api.Value{Kind: api.KBool} }
func num(x float64) api.Value { return api.Value{Kind: api.KNum, Num: x} }
func text(s string) api.Value { return api.Value{Kind: api.KStr, Str: s} }
func symbol(n int) api.Value  { return api.Value{Kind: api.KSym, Id: n} }
func ref(n int) api.Value     { return api.Value{Kind: api.KRef, Id: n} }
func str(s string) api.Key    { return api.Key{Str: s} }
func sym(n int) api.Key       { return api.Key{Sym: n} }
func at(n int) api.Key        { return str(strconv.Itoa(n)) }

var nan, below0, endless = math.NaN(), math.Copysign(0, -1), math.Inf(1)

// The errors that are thrown.
func rangeError() error { return &api.Thrown{Kind: api.XRange} }
func typeError() error  { return &api.Thrown{Kind: api.XType} }

// kinds is all kinds of elements, and noKinds some numbers that are none.
func kinds() []int { return []int{1, 2, 3, 4, 5, 6, 7, 8, 9} }

func noKinds() []int {
	return []int{0, -1, 10, 11, 255, 257, 1 << 32, 1<<32 + 1, math.MinInt, math.MaxInt}
}

// sizes is the size of each kind, from TInt8 on.
func sizeOf(kind int) int { return []int{1, 1, 1, 2, 2, 4, 4, 4, 8}[kind-1] }

// data and accessor are whole descriptors; flags are those that are Yes: w, e, c.
func data(v api.Value, flags string) api.Desc {
	return api.Desc{Value: v, Writable: flag(flags, "w"), Enumerable: flag(flags, "e"), Configurable: flag(flags, "c")}
}

func accessor(get, set api.Value, flags string) api.Desc {
	return api.Desc{Get: get, Set: set, Enumerable: flag(flags, "e"), Configurable: flag(flags, "c")}
}

func flag(flags, c string) api.Tri {
	if strings.Contains(flags, c) {
		return api.Yes
	}
	return api.No
}

// plain is values of every kind that are no objects.
func plain() []api.Value {
	return []api.Value{
		undefined(), null(), no(), yes(), num(0), num(below0), num(1), num(-0.5), num(1e300), num(nan), num(endless), num(-endless),
		text(""), text("0"), text("a"), text("\xed\xa0\xbd"), text("\U0001f600"), symbol(1), symbol(65536),
	}
}

// broken is values that are not well formed.
func broken() []api.Value {
	return []api.Value{
		{}, {Kind: 8}, {Kind: -1}, {Num: 1}, {Id: 1}, {Kind: api.KUndefined, Num: 1}, {Kind: api.KNull, Id: 3}, {Kind: api.KNull, Num: below0}, {Kind: api.KBool, Str: "a"}, {Kind: api.KNum, Bool: true},
		{Kind: api.KStr, Id: 1}, {Kind: api.KStr, Str: "\xff"}, {Kind: api.KStr, Str: "\xed\xa0\xbd\xed\xb8\x80"},
		{Kind: api.KSym}, {Kind: api.KSym, Id: 65537}, {Kind: api.KSym, Id: 1, Num: 2},
		{Kind: api.KRef}, {Kind: api.KRef, Id: -1}, {Kind: api.KRef, Id: 65537}, {Kind: api.KRef, Id: 1, Str: "a"}, {Kind: api.KRef, Id: 1, Bool: true},
	}
}

func newHeap(t *testing.T, capacity, fuel, depth int) *heap.Heap {
	t.Helper()
	h, e := heap.New(capacity, fuel, depth)
	if e != api.OK {
		t.Fatal(e)
	}
	return h
}

func made(t *testing.T, h *heap.Heap, proto api.Value) int {
	t.Helper()
	n, err := h.Make(proto)
	if err != nil {
		t.Fatal(err)
	}
	return n
}

// native is a function that is a function of Go: a call of it costs one unit.
type native struct{ heap.Ordinary }

type does func(h *heap.Heap, this api.Value, given []api.Value) (api.Value, error)

func (native) Call(h *heap.Heap, f int, this api.Value, given []api.Value) (api.Value, error) {
	return h.Own(f).(does)(h, this, given)
}

func addNative(t *testing.T, h *heap.Heap, d does) api.Value {
	t.Helper()
	n, err := h.Add(api.CNative, null(), native{}, d)
	if err != nil {
		t.Fatal(err)
	}
	return ref(n)
}

// filled is a new buffer of some bytes, with the prototype null.
func filled(t *testing.T, h *heap.Heap, l ...byte) int {
	t.Helper()
	b, err := typed.Buffer(h, null(), len(l))
	if err != nil {
		t.Fatal(err)
	}
	if e := typed.Lay(h, b, 0, l); e != api.OK {
		t.Fatal(e)
	}
	return b
}

// over is a new typed array over a buffer, with the prototype null.
func over(t *testing.T, h *heap.Heap, b, kind, at, length int) int {
	t.Helper()
	o, err := typed.New(h, null(), b, kind, at, length)
	if err != nil {
		t.Fatal(err)
	}
	return o
}

func detach(t *testing.T, h *heap.Heap, b int) {
	t.Helper()
	if e := typed.Detach(h, b); e != api.OK {
		t.Fatal(e)
	}
}

// define defines a property, at no cost.
func define(t *testing.T, h *heap.Heap, o int, k api.Key, d api.Desc) {
	t.Helper()
	free(t, h, func() (bool, error) { return h.DefineOwnProperty(o, k, d) })
}

// free does what must be true, at no cost.
func free(t *testing.T, h *heap.Heap, do func() (bool, error)) {
	t.Helper()
	fuel := h.Fuel()
	h.Refuel(10)
	if ok, err := do(); !ok || err != nil {
		t.Fatalf("%v, %v", ok, err)
	}
	h.Refuel(fuel)
}

// defines holds what a definition answers, and what it costs, against what these must be.
func defines(t *testing.T, h *heap.Heap, o int, k api.Key, d api.Desc, want bool) {
	t.Helper()
	fuel := h.Fuel()
	if ok, err := h.DefineOwnProperty(o, k, d); ok != want || err != nil || fuel-h.Fuel() != 1 {
		t.Errorf("define %v by %v: %v, %v, %d spent; want %v", k, d, ok, err, fuel-h.Fuel(), want)
	}
}

// sets is that an object is its own receiver of a value that is not asked, and answers true.
func sets(t *testing.T, h *heap.Heap, o int, k api.Key, v api.Value) {
	t.Helper()
	if ok, err := h.Set(o, k, v, ref(o)); !ok || err != nil {
		t.Errorf("Set(%d, %v, %v): %v, %v", o, k, v, ok, err)
	}
}

// tells holds what Get answers against what it must.
func tells(t *testing.T, h *heap.Heap, o int, k api.Key, want api.Value) {
	t.Helper()
	if v, err := h.Get(o, k, ref(o)); !sameValue(v, want) || err != nil {
		t.Errorf("Get(%d, %v): %v, %v; want %v", o, k, v, err, want)
	}
}

// holds holds a buffer's bytes against what they must be.
func holds(t *testing.T, h *heap.Heap, b int, want ...byte) {
	t.Helper()
	fuel := h.Fuel()
	if l, e := typed.Bytes(h, b); !slices.Equal(l, want) || e != api.OK || h.Fuel() != fuel {
		t.Errorf("Bytes(%d): % x, %v; want % x", b, l, e, want)
	}
}

// gone tells whether a buffer is detached: of any other one that is read behind its end a RangeError is thrown.
func gone(h *heap.Heap, b int) bool {
	_, err := typed.Read(h, b, api.MaxBuffer, api.TInt8, true)
	return sameError(err, typeError())
}

// moment is all that a heap tells at one moment, without anything being entered.
type moment struct {
	shapes []api.Shape
	bytes  [][]byte // nil but for buffers
	gone   []bool
	parts  [][4]int
}

func now(h *heap.Heap) moment {
	m := moment{shapes: h.Shapes()}
	for i := range m.shapes {
		l, _ := typed.Bytes(h, i+1)
		p, _ := typed.Parts(h, i+1)
		m.bytes, m.gone, m.parts = append(m.bytes, l), append(m.gone, gone(h, i+1)), append(m.parts, p)
	}
	return m
}

func sameMoment(a, b moment) bool {
	same := func(x, y []byte) bool { return slices.Equal(x, y) }
	return sameShapes(a.shapes, b.shapes) && slices.EqualFunc(a.bytes, b.bytes, same) && slices.Equal(a.gone, b.gone) && slices.Equal(a.parts, b.parts)
}

// put writes a descriptor into what a shape tells of a key, which comes behind all, if it is new.
func put(s *api.Shape, k api.Key, d api.Desc) {
	i := slices.IndexFunc(s.Props, func(p api.Prop) bool { return p.Key == k })
	if i < 0 {
		s.Props = append(s.Props, api.Prop{Key: k, Desc: d})
		return
	}
	s.Props[i].Desc = d
}

func lying(s api.Shape, k api.Key) api.Desc {
	for _, p := range s.Props {
		if p.Key == k {
			return p.Desc
		}
	}
	return api.Desc{}
}

func sameNumber(x, y float64) bool {
	return x != x && y != y || x == y && math.Signbit(x) == math.Signbit(y)
}

func sameValue(a, b api.Value) bool {
	x, y := a.Num, b.Num
	a.Num, b.Num = 0, 0
	return a == b && sameNumber(x, y)
}

func sameDesc(a, b api.Desc) bool {
	return sameValue(a.Value, b.Value) && a.Get == b.Get && a.Set == b.Set && a.Writable == b.Writable && a.Enumerable == b.Enumerable && a.Configurable == b.Configurable
}

func sameShape(a, b api.Shape) bool {
	same := func(p, q api.Prop) bool { return p.Key == q.Key && sameDesc(p.Desc, q.Desc) }
	return a.Class == b.Class && a.Proto == b.Proto && a.Extensible == b.Extensible && slices.EqualFunc(a.Props, b.Props, same)
}

func sameShapes(a, b []api.Shape) bool { return slices.EqualFunc(a, b, sameShape) }

// sameError tells whether two errors are both none, the same number, or throws of the same.
func sameError(a, b error) bool {
	var x, y *api.Thrown
	if errors.As(a, &x) && errors.As(b, &y) {
		return x.Kind == y.Kind && sameValue(x.Value, y.Value)
	}
	return a == b
}
