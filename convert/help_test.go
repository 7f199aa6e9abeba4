package convert_test

// What the tests of this layer share: short names for values, heaps whose objects write down what is entered, and the calls in one row.

import (
	"errors"
	"math"
	"slices"
	"strconv"
	"strings"
	"testing"

	"cameo/api"
	"cameo/call"
	"cameo/convert"
	"cameo/heap"
	"cameo/value"
)

func undefined() api.Value    { return api.Value{Kind: api.KUndefined} }
func null() api.Value         { return api.Value{Kind: api.KNull} }
func yes() api.Value          { return api.Value{Kind: api.KBool, Bool: true} }
func no() api.Value           { return api.Value{Kind: api.KBool} }
func num(x float64) api.Value { return api.Value{Kind: api.KNum, Num: x} }
func text(s string) api.Value { return api.Value{Kind: api.KStr, Str: s} }
func symbol(n int) api.Value  { return api.Value{Kind: api.KSym, Id: n} }
func ref(n int) api.Value     { return api.Value{Kind: api.KRef, Id: n} }
func str(s string) api.Key    { return api.Key{Str: s} }
func sym(n int) api.Key       { return api.Key{Sym: n} }
func open(v api.Value) api.Desc {
	return api.Desc{Value: v, Writable: api.Yes, Enumerable: api.Yes, Configurable: api.Yes}
}

var nan, below0, endless = math.NaN(), math.Copysign(0, -1), math.Inf(1)

var (
	toPrimitive = sym(api.SymToPrimitive)
	toString    = str("toString")
	valueOf     = str("valueOf")
)

// plain is values of every kind that are no objects.
func plain() []api.Value {
	return []api.Value{
		undefined(), null(), no(), yes(), num(0), num(below0), num(1), num(-1), num(0.5), num(-0.5), num(255.5), num(1e21), num(-1e300), num(nan), num(endless), num(-endless),
		num(1<<31 - 1), num(1 << 31), num(1<<32 - 1), num(1 << 32), num(1<<53 - 1), num(1 << 53), num(-1 << 53), num(5e-324), num(math.MaxFloat64),
		text(""), text("0"), text("-0"), text("1"), text(" 1\n"), text("0x10"), text("1e3"), text("-1"), text("1.5"), text("x"), text("true"), text("null"), text("undefined"), text("NaN"), text("Infinity"), text("-Infinity"),
		text("9007199254740993"), text("\u00a0"), text("\xed\xa0\xbd"), text("\xed\xb8\x80"), text("\U0001f600"), text("\uffff"), symbol(1), symbol(api.SymToPrimitive), symbol(65536),
	}
}

// broken is values that are not well formed.
func broken() []api.Value {
	return []api.Value{
		{}, {Kind: 8}, {Kind: -1}, {Num: 1}, {Id: 1}, {Kind: api.KUndefined, Num: 1}, {Kind: api.KNull, Id: 3}, {Kind: api.KNull, Num: below0}, {Kind: api.KBool, Str: "a"}, {Kind: api.KNum, Bool: true},
		{Kind: api.KStr, Id: 1}, {Kind: api.KStr, Str: "\xff"}, {Kind: api.KStr, Str: "\xed\xa0\xbd\xed\xb8\x80"}, {Kind: api.KStr, Str: strings.Repeat("1", api.MaxStr+1)},
		{Kind: api.KSym}, {Kind: api.KSym, Id: 65537}, {Kind: api.KSym, Id: 1, Num: 2},
		{Kind: api.KRef}, {Kind: api.KRef, Id: -1}, {Kind: api.KRef, Id: 65537}, {Kind: api.KRef, Id: 1, Str: "a"}, {Kind: api.KRef, Id: 1, Bool: true},
	}
}

func brokenKeys() []api.Key {
	return []api.Key{str("\xff"), str("\xed\xa0\xbd\xed\xb8\x80"), str(strings.Repeat("a", api.MaxStr+1)), {Str: "a", Sym: 1}, sym(-1), sym(65537), sym(math.MinInt)}
}

func newHeap(t *testing.T, capacity, fuel, depth int) *heap.Heap {
	t.Helper()
	h, e := heap.New(capacity, fuel, depth)
	if e != api.OK {
		t.Fatal(e)
	}
	return h
}

func made(t *testing.T, h *heap.Heap, proto api.Value) int {
	t.Helper()
	n, err := h.Make(proto)
	if err != nil {
		t.Fatal(err)
	}
	return n
}

// fn is a function of operations; giving is one that answers a value, having spent 3.
func fn(t *testing.T, h *heap.Heap, body ...api.Op) api.Value {
	t.Helper()
	n, err := call.New(h, null(), body, false)
	if err != nil {
		t.Fatal(err)
	}
	return ref(n)
}

func giving(t *testing.T, h *heap.Heap, v api.Value) api.Value {
	t.Helper()
	return fn(t, h, api.Op{Code: api.OConst, Val: v}, api.Op{Code: api.OReturn})
}

// lay puts a property there, at no cost.
func lay(t *testing.T, h *heap.Heap, o int, k api.Key, d api.Desc) {
	t.Helper()
	fuel := h.Fuel()
	h.Refuel(1)
	if ok, err := h.DefineOwnProperty(o, k, d); !ok || err != nil {
		t.Fatalf("lay %d %v %v: %v, %v", o, k, d, ok, err)
	}
	h.Refuel(fuel)
}

// diary is what was entered, in order: seers write down each Get, natives each Call.
type diary struct{ lines []string }

func (d *diary) write(words ...string) { d.lines = append(d.lines, strings.Join(words, " ")) }

// take is what stands there, which is then gone.
func (d *diary) take() []string {
	l := d.lines
	d.lines = nil
	return l
}

func tell(v api.Value) string {
	s, e := value.Text(v)
	if e != api.OK {
		return e.Error()
	}
	return s
}

// seer is the methods of an ordinary object that writes down who asks it.
type seer struct{ heap.Ordinary }

func (m seer) Get(h *heap.Heap, o int, k api.Key, receiver api.Value) (api.Value, error) {
	name := k.Str
	if k.Sym != 0 {
		name = "@" + strconv.Itoa(k.Sym)
	}
	h.Own(o).(*diary).write("#"+strconv.Itoa(o), name, tell(receiver))
	return m.Ordinary.Get(h, o, k, receiver)
}

func addSeer(t *testing.T, h *heap.Heap, d *diary) int {
	t.Helper()
	n, err := h.Add(api.COrdinary, null(), seer{}, d)
	if err != nil {
		t.Fatal(err)
	}
	return n
}

// native is a function that is a function of Go: a call of it costs one unit.
type native struct{ heap.Ordinary }

type does func(this api.Value, args []api.Value) (api.Value, error)

func (native) Call(h *heap.Heap, f int, this api.Value, args []api.Value) (api.Value, error) {
	return h.Own(f).(does)(this, args)
}

func addNative(t *testing.T, h *heap.Heap, d does) api.Value {
	t.Helper()
	n, err := h.Add(api.CNative, null(), native{}, d)
	if err != nil {
		t.Fatal(err)
	}
	return ref(n)
}

// ending is a native that writes its name down, with its receiver and arguments, and ends so.
func ending(t *testing.T, h *heap.Heap, d *diary, name string, v api.Value, err error) api.Value {
	t.Helper()
	return addNative(t, h, func(this api.Value, args []api.Value) (api.Value, error) {
		words := []string{name, tell(this)}
		for _, a := range args {
			words = append(words, tell(a))
		}
		d.write(words...)
		return v, err
	})
}

func sameValue(a, b api.Value) bool {
	return a == b && math.Signbit(a.Num) == math.Signbit(b.Num) || a.Kind == api.KNum && b.Kind == api.KNum && a.Num != a.Num && b.Num != b.Num
}

func sameShape(a, b api.Shape) bool {
	same := func(p, q api.Prop) bool {
		return p.Key == q.Key && sameValue(p.Desc.Value, q.Desc.Value) && p.Desc.Get == q.Desc.Get && p.Desc.Set == q.Desc.Set &&
			p.Desc.Writable == q.Desc.Writable && p.Desc.Enumerable == q.Desc.Enumerable && p.Desc.Configurable == q.Desc.Configurable
	}
	return a.Class == b.Class && a.Proto == b.Proto && a.Extensible == b.Extensible && slices.EqualFunc(a.Props, b.Props, same)
}

func sameShapes(a, b []api.Shape) bool { return slices.EqualFunc(a, b, sameShape) }

// sameError tells whether two errors are both none, the same number, or throws of the same.
func sameError(a, b error) bool {
	var x, y *api.Thrown
	if errors.As(a, &x) && errors.As(b, &y) {
		return x.Kind == y.Kind && sameValue(x.Value, y.Value)
	}
	return a == b
}

func typeError() error         { return &api.Thrown{Kind: api.XType} }
func rangeError() error        { return &api.Thrown{Kind: api.XRange} }
func thrown(v api.Value) error { return &api.Thrown{Kind: api.XValue, Value: v} }

// act is a call of the package. What it answers is told as a value; the numbers' calls answer a number.
type act struct {
	name string
	two  bool // of a and b, else of a alone
	do   func(h *heap.Heap, a, b api.Value) (api.Value, error)
}

// stray is what an act answers where something stands beside an error.
var stray = api.Value{Kind: 99}

func told[T comparable](as func(T) api.Value, x T, err error) (api.Value, error) {
	var zero T
	switch {
	case err == nil:
		return as(x), nil
	case x != zero:
		return stray, err
	}
	return api.Value{}, err
}

func itself(v api.Value) api.Value { return v }

func count[T int32 | uint32 | int64](x T) api.Value { return num(float64(x)) }

func truth(b bool) api.Value { return api.Value{Kind: api.KBool, Bool: b} }

// keyed is a key as the value that it is.
func keyed(k api.Key) api.Value {
	if k.Sym != 0 {
		return api.Value{Kind: api.KSym, Id: k.Sym, Str: k.Str}
	}
	return text(k.Str)
}

// lesser tells both answers of Less as one: undefined, if there is no order.
func lesser(l [2]bool) api.Value {
	switch {
	case l[1]:
		return truth(l[0])
	case l[0]:
		return stray
	}
	return undefined()
}

func methodAct(k api.Key) act {
	return act{"Method " + k.Str, false, func(h *heap.Heap, a, _ api.Value) (api.Value, error) {
		v, err := convert.Method(h, a, k)
		return told(itself, v, err)
	}}
}

func primitiveAct(hint int) act {
	return act{"Primitive " + strconv.Itoa(hint), false, func(h *heap.Heap, a, _ api.Value) (api.Value, error) {
		v, err := convert.Primitive(h, a, hint)
		return told(itself, v, err)
	}}
}

func lessAct(left bool) act {
	return act{"Less " + strconv.FormatBool(left), true, func(h *heap.Heap, a, b api.Value) (api.Value, error) {
		is, ordered, err := convert.Less(h, a, b, left)
		return told(lesser, [2]bool{is, ordered}, err)
	}}
}

func one[T comparable](name string, f func(*heap.Heap, api.Value) (T, error), as func(T) api.Value) act {
	return act{name, false, func(h *heap.Heap, a, _ api.Value) (api.Value, error) {
		x, err := f(h, a)
		return told(as, x, err)
	}}
}

func two[T comparable](name string, f func(h *heap.Heap, a, b api.Value) (T, error), as func(T) api.Value) act {
	return act{name, true, func(h *heap.Heap, a, b api.Value) (api.Value, error) {
		x, err := f(h, a, b)
		return told(as, x, err)
	}}
}

func typeOf(h *heap.Heap, v api.Value) (string, error) {
	s, e := convert.TypeOf(h, v)
	if e != api.OK {
		return s, e
	}
	return s, nil
}

// acts is all calls of the package.
func acts() []act {
	return []act{
		methodAct(toPrimitive), methodAct(toString), methodAct(valueOf),
		primitiveAct(api.HintDefault), primitiveAct(api.HintString), primitiveAct(api.HintNumber),
		one("Number", convert.Number, num), one("String", convert.String, text), one("Key", convert.Key, keyed),
		one("Integer", convert.Integer, num), one("Length", convert.Length, count), one("Index", convert.Index, count), one("Int32", convert.Int32, count), one("Uint32", convert.Uint32, count),
		one("TypeOf", typeOf, text),
		two("Loose", convert.Loose, truth), lessAct(true), lessAct(false), two("Add", convert.Add, itself),
	}
}

// named is the act of that name.
func named(t *testing.T, name string) act {
	t.Helper()
	for _, x := range acts() {
		if x.name == name {
			return x
		}
	}
	t.Fatalf("no act %s", name)
	return act{}
}

// is holds what an act comes to, and what it spends, against what these must be.
func (x act) is(t *testing.T, h *heap.Heap, cost int, want api.Value, wrong error, a, b api.Value) {
	t.Helper()
	was := h.Fuel()
	v, err := x.do(h, a, b)
	if !sameValue(v, want) || !sameError(err, wrong) || was-h.Fuel() != cost {
		t.Errorf("%s of %s, %s: %v, %v, %d spent; want %v, %v, %d spent", x.name, tell(a), tell(b), v, err, was-h.Fuel(), want, wrong, cost)
	}
}
