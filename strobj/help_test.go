package strobj_test

// What the tests of this layer share: short names for values, heaps with String objects, and all that is told of these.

import (
	"errors"
	"math"
	"slices"
	"strconv"
	"strings"
	"testing"

	"cameo/api"
	"cameo/heap"
	"cameo/strobj"
)

func undefined() api.Value    { return api.Value{Kind: api.KUndefined} }
func null() api.Value         { return api.Value{Kind: api.KNull} }
func yes() api.Value          { return api.Value{Kind: api.KBool, Bool: true} }
func no() api.Value           { return api.Value{Kind: api.KBool} }
func num(x float64) api.Value { return api.Value{Kind: api.KNum, Num: x} }
func text(s string) api.Value { return api.Value{Kind: api.KStr, Str: s} }
func symbol(n int) api.Value  { return api.Value{Kind: api.KSym, Id: n} }
func ref(n int) api.Value     { return api.Value{Kind: api.KRef, Id: n} }
func str(s string) api.Key    { return api.Key{Str: s} }
func sym(n int) api.Key       { return api.Key{Sym: n} }
func at(n int) api.Key        { return str(strconv.Itoa(n)) }

var nan, below0, endless = math.NaN(), math.Copysign(0, -1), math.Inf(1)

// The surrogates of U+1F600, each one alone.
const (
	high = "\xed\xa0\xbd"
	low  = "\xed\xb8\x80"
)

// data and accessor are whole descriptors; flags are those that are Yes: w, e, c.
func data(v api.Value, flags string) api.Desc {
	return api.Desc{Value: v, Writable: flag(flags, "w"), Enumerable: flag(flags, "e"), Configurable: flag(flags, "c")}
}

func accessor(get, set api.Value, flags string) api.Desc {
	return api.Desc{Get: get, Set: set, Enumerable: flag(flags, "e"), Configurable: flag(flags, "c")}
}

func flag(flags, c string) api.Tri {
	if strings.Contains(flags, c) {
		return api.Yes
	}
	return api.No
}

// plain is values of every kind that are no objects.
func plain() []api.Value {
	return []api.Value{
		undefined(), null(), no(), yes(), num(0), num(below0), num(1), num(-0.5), num(1e300), num(nan), num(endless), num(-endless),
		text(""), text("0"), text("a"), text("ab"), text(high), text("\U0001f600"), symbol(1), symbol(65536),
	}
}

// broken is values that are not well formed.
func broken() []api.Value {
	return []api.Value{
		{}, {Kind: 8}, {Kind: -1}, {Num: 1}, {Id: 1}, {Kind: api.KUndefined, Num: 1}, {Kind: api.KNull, Id: 3}, {Kind: api.KNull, Num: below0}, {Kind: api.KBool, Str: "a"}, {Kind: api.KNum, Bool: true},
		{Kind: api.KStr, Id: 1}, {Kind: api.KStr, Str: "\xff"}, {Kind: api.KStr, Str: high + low},
		{Kind: api.KSym}, {Kind: api.KSym, Id: 65537}, {Kind: api.KSym, Id: 1, Num: 2},
		{Kind: api.KRef}, {Kind: api.KRef, Id: -1}, {Kind: api.KRef, Id: 65537}, {Kind: api.KRef, Id: 1, Str: "a"}, {Kind: api.KRef, Id: 1, Bool: true},
	}
}

// words is strings of every form, none of them long.
func words() []string {
	return []string{
		"", "a", "ab", "abc", "0", "00", "10", "length", "hello, world", strings.Repeat("0123456789", 11),
		"\x00", "\x00\x00", "a\x00b", " ", "\x7f", "\u0080", "\u00e9", "\u07ff", "\u0800", "\u20ac", "\ud7ff", "\ue000", "\ufffd", "\ufffe", "\uffff", "\ufeff", "e\u0301", "\u65e5\u672c",
		"\U00010000", "\U0001f600", "\U0010ffff", "\U0001f600\U0001f600", "a\U0001f600", "\U0001f600b", "a\U0001f600b\U00010000c",
		high, low, low + high, high + high, low + low, high + high + high, high + "a" + low, "a" + high, high + "a", low + "a", "a" + low, high + "\U0001f600", "\U0001f600" + low, "\U0001f600" + high, low + "\U0001f600" + high,
		"\xed\xa0\x80", "\xed\xaf\xbf", "\xed\xb0\x80", "\xed\xbf\xbf", "\xed\xbf\xbf\xed\xa0\x80", "\ud7ff\xed\xa0\x80\ue000",
	}
}

// noStrings is bytes that are none.
func noStrings() []string {
	return []string{
		"\xff", "\xfe", "\x80", "\xbf", "\xc2", "\xe2\x82", "\xf0\x9f\x98", "\xed\xa0", "\xed", "a\xff", "\xffa", "ab\x80cd", "\xc0\x80", "\xc1\xbf", "\xe0\x80\x80", "\xe0\x9f\xbf", "\xf0\x80\x80\x80", "\xf0\x8f\xbf\xbf", "\xf4\x90\x80\x80", "\xf5\x80\x80\x80", "\xf8\x88\x80\x80\x80",
		high + low, "a" + high + low, high + low + "a", high + high + low, high + low + low, "\xed\xa0\x80\xed\xb0\x80", "\xed\xaf\xbf\xed\xbf\xbf", "\U0001f600" + high + low, "\xe2\x28\xa1", "\xed\xa0\x28",
	}
}

func newHeap(t *testing.T, capacity, fuel, depth int) *heap.Heap {
	t.Helper()
	h, e := heap.New(capacity, fuel, depth)
	if e != api.OK {
		t.Fatal(e)
	}
	return h
}

func made(t *testing.T, h *heap.Heap, proto api.Value) int {
	t.Helper()
	n, err := h.Make(proto)
	if err != nil {
		t.Fatal(err)
	}
	return n
}

// native is a function that is a function of Go: a call of it costs one unit.
type native struct{ heap.Ordinary }

type does func(h *heap.Heap, this api.Value, given []api.Value) (api.Value, error)

func (native) Call(h *heap.Heap, f int, this api.Value, given []api.Value) (api.Value, error) {
	return h.Own(f).(does)(h, this, given)
}

func addNative(t *testing.T, h *heap.Heap, d does) api.Value {
	t.Helper()
	n, err := h.Add(api.CNative, null(), native{}, d)
	if err != nil {
		t.Fatal(err)
	}
	return ref(n)
}

// of is a new String object.
func of(t *testing.T, h *heap.Heap, proto api.Value, s string) int {
	t.Helper()
	o, err := strobj.New(h, proto, s)
	if err != nil {
		t.Fatal(err)
	}
	return o
}

// define defines a property, at no cost.
func define(t *testing.T, h *heap.Heap, o int, k api.Key, d api.Desc) {
	t.Helper()
	free(t, h, func() (bool, error) { return h.DefineOwnProperty(o, k, d) })
}

func shut(t *testing.T, h *heap.Heap, o int) {
	t.Helper()
	free(t, h, func() (bool, error) { return h.PreventExtensions(o) })
}

// free does what must be true, at no cost.
func free(t *testing.T, h *heap.Heap, do func() (bool, error)) {
	t.Helper()
	fuel := h.Fuel()
	h.Refuel(10)
	if ok, err := do(); !ok || err != nil {
		t.Fatalf("%v, %v", ok, err)
	}
	h.Refuel(fuel)
}

// defines holds what a definition answers, and what it costs, against what these must be.
func defines(t *testing.T, h *heap.Heap, o int, k api.Key, d api.Desc, want bool) {
	t.Helper()
	fuel := h.Fuel()
	if ok, err := h.DefineOwnProperty(o, k, d); ok != want || err != nil || fuel-h.Fuel() != 1 {
		t.Errorf("define %v by %v: %v, %v, %d spent; want %v", k, d, ok, err, fuel-h.Fuel(), want)
	}
}

// tells holds what Get answers against what it must.
func tells(t *testing.T, h *heap.Heap, o int, k api.Key, want api.Value) {
	t.Helper()
	if v, err := h.Get(o, k, ref(o)); !sameValue(v, want) || err != nil {
		t.Errorf("Get(%d, %v): %v, %v; want %v", o, k, v, err, want)
	}
}

// has holds what GetOwnProperty tells against what it must. The zero descriptor is none.
func has(t *testing.T, h *heap.Heap, o int, k api.Key, want api.Desc) {
	t.Helper()
	if d, ok, err := h.GetOwnProperty(o, k); !sameDesc(d, want) || ok != (want != api.Desc{}) || err != nil {
		t.Errorf("GetOwnProperty(%d, %v): %v, %v, %v; want %v", o, k, d, ok, err, want)
	}
}

// listed holds an object's keys against what they must be.
func listed(t *testing.T, h *heap.Heap, o int, want ...api.Key) {
	t.Helper()
	fuel := h.Fuel()
	if l, err := h.OwnPropertyKeys(o); !slices.Equal(l, want) || err != nil || fuel-h.Fuel() != 1 {
		t.Errorf("OwnPropertyKeys(%d): %v, %v, %d spent; want %v", o, l, err, fuel-h.Fuel(), want)
	}
}

// holds holds a String object's string against what it must be.
func holds(t *testing.T, h *heap.Heap, o int, want string) {
	t.Helper()
	fuel := h.Fuel()
	if s, e := strobj.Data(h, o); s != want || e != api.OK || h.Fuel() != fuel {
		t.Errorf("Data(%d): %q, %v; want %q", o, s, e, want)
	}
}

// moment is all that a heap tells at one moment, without anything being entered.
type moment struct {
	shapes []api.Shape
	data   []string
	errors []api.Errno
}

func now(h *heap.Heap) moment {
	m := moment{shapes: h.Shapes()}
	for i := range m.shapes {
		s, e := strobj.Data(h, i+1)
		m.data, m.errors = append(m.data, s), append(m.errors, e)
	}
	return m
}

func sameMoment(a, b moment) bool {
	return sameShapes(a.shapes, b.shapes) && slices.Equal(a.data, b.data) && slices.Equal(a.errors, b.errors)
}

// put writes a descriptor into what a shape tells of a key, which comes behind all, if it is new.
func put(s *api.Shape, k api.Key, d api.Desc) {
	i := slices.IndexFunc(s.Props, func(p api.Prop) bool { return p.Key == k })
	if i < 0 {
		s.Props = append(s.Props, api.Prop{Key: k, Desc: d})
		return
	}
	s.Props[i].Desc = d
}

// gone takes a key out of what a shape tells.
func gone(s *api.Shape, k api.Key) {
	s.Props = slices.DeleteFunc(s.Props, func(p api.Prop) bool { return p.Key == k })
}

func lying(s api.Shape, k api.Key) api.Desc {
	for _, p := range s.Props {
		if p.Key == k {
			return p.Desc
		}
	}
	return api.Desc{}
}

func sameValue(a, b api.Value) bool {
	x, y := a.Num, b.Num
	a.Num, b.Num = 0, 0
	return a == b && (x != x && y != y || x == y && math.Signbit(x) == math.Signbit(y))
}

func sameDesc(a, b api.Desc) bool {
	return sameValue(a.Value, b.Value) && a.Get == b.Get && a.Set == b.Set && a.Writable == b.Writable && a.Enumerable == b.Enumerable && a.Configurable == b.Configurable
}

func sameShape(a, b api.Shape) bool {
	same := func(p, q api.Prop) bool { return p.Key == q.Key && sameDesc(p.Desc, q.Desc) }
	return a.Class == b.Class && a.Proto == b.Proto && a.Extensible == b.Extensible && slices.EqualFunc(a.Props, b.Props, same)
}

func sameShapes(a, b []api.Shape) bool { return slices.EqualFunc(a, b, sameShape) }

// sameError tells whether two errors are both none, the same number, or throws of the same.
func sameError(a, b error) bool {
	var x, y *api.Thrown
	if errors.As(a, &x) && errors.As(b, &y) {
		return x.Kind == y.Kind && sameValue(x.Value, y.Value)
	}
	return a == b
}
