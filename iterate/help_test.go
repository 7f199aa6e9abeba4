package iterate_test

// What the tests of this layer share: short names for values, heaps, all that is told of these, and the calls in one row.

import (
	"errors"
	"fmt"
	"math"
	"reflect"
	"slices"
	"strconv"
	"strings"
	"testing"

	"cameo/api"
	"cameo/args"
	"cameo/heap"
	"cameo/iterate"
	"cameo/namespace"
	"cameo/proxy"
	"cameo/typed"
)

func undefined() api.Value    { return api.Value{Kind: api.KUndefined} }
func null() api.Value         { return api.Value{Kind: api.KNull} }
func yes() api.Value          { return api.Value{Kind: api.KBool, Bool: true} }
func no() api.Value           { return api.Value{Kind: api.KBool} }
func num(x float64) api.Value { return api.Value{Kind: api.KNum, Num: x} }
func text(s string) api.Value { return api.Value{Kind: api.KStr, Str: s} }
func symbol(n int) api.Value  { return api.Value{Kind: api.KSym, Id: n} }
func ref(n int) api.Value     { return api.Value{Kind: api.KRef, Id: n} }
func str(s string) api.Key    { return api.Key{Str: s} }
func sym(n int) api.Key       { return api.Key{Sym: n} }

var nan, below0, endless = math.NaN(), math.Copysign(0, -1), math.Inf(1)

// The surrogates of U+1F600, each one alone.
const (
	high = "\xed\xa0\xbd"
	low  = "\xed\xb8\x80"
)

// tooLong is made once, because it is long.
var tooLong = strings.Repeat("x", api.MaxStr+1)

// data and accessor are whole descriptors; flags are those that are Yes: w, e, c.
func data(v api.Value, flags string) api.Desc {
	return api.Desc{Value: v, Writable: flag(flags, "w"), Enumerable: flag(flags, "e"), Configurable: flag(flags, "c")}
}

func accessor(get, set api.Value, flags string) api.Desc {
	return api.Desc{Get: get, Set: set, Enumerable: flag(flags, "e"), Configurable: flag(flags, "c")}
}

func flag(flags, c string) api.Tri {
	if strings.Contains(flags, c) {
		return api.Yes
	}
	return api.No
}

// is is a property, marked one of a symbol; has is one of data that anybody may change, got one with a getter.
func is(k string, d api.Desc) api.Prop   { return api.Prop{Key: str(k), Desc: d} }
func marked(n int, d api.Desc) api.Prop  { return api.Prop{Key: sym(n), Desc: d} }
func has(k string, v api.Value) api.Prop { return is(k, data(v, "wec")) }
func got(k string, f int) api.Prop       { return is(k, accessor(ref(f), undefined(), "ec")) }

func isAccessor(d api.Desc) bool { return d.Get.Kind != api.KNone || d.Set.Kind != api.KNone }

func typeError() error         { return &api.Thrown{Kind: api.XType} }
func referenceError() error    { return &api.Thrown{Kind: api.XReference} }
func thrown(v api.Value) error { return &api.Thrown{Kind: api.XValue, Value: v} }

// ends is what a step may come to instead of what it should.
func ends() []error {
	return []error{thrown(text("boom")), thrown(undefined()), typeError(), &api.Thrown{Kind: api.XRange}, &api.Thrown{Kind: api.XSyntax}, referenceError(), api.ErrFuel, api.ErrDepth, api.ErrFull}
}

// some is a few of these, other ones at each turn.
func some(turn, n int) []error {
	l := slices.Concat(ends(), ends())
	return l[turn%len(ends()):][:n]
}

// plain is values of every kind that are no objects.
func plain() []api.Value {
	return []api.Value{
		undefined(), null(), no(), yes(), num(0), num(below0), num(1), num(-0.5), num(1e300), num(nan), num(endless), num(-endless),
		text(""), text("0"), text("a"), text(high), text("\U0001f600"), symbol(1), symbol(14), symbol(65536),
	}
}

// broken is values that are not well formed.
func broken() []api.Value {
	return []api.Value{
		{}, {Kind: 8}, {Kind: -1}, {Num: 1}, {Id: 1}, {Kind: api.KUndefined, Num: 1}, {Kind: api.KNull, Id: 3}, {Kind: api.KNull, Num: below0}, {Kind: api.KBool, Str: "a"}, {Kind: api.KNum, Bool: true},
		{Kind: api.KStr, Id: 1}, {Kind: api.KStr, Str: "\xff"}, {Kind: api.KStr, Str: high + low}, {Kind: api.KStr, Str: tooLong},
		{Kind: api.KSym}, {Kind: api.KSym, Id: 65537}, {Kind: api.KSym, Id: 1, Num: 2},
		{Kind: api.KRef}, {Kind: api.KRef, Id: -1}, {Kind: api.KRef, Id: 65537}, {Kind: api.KRef, Id: 1, Str: "a"}, {Kind: api.KRef, Id: 1, Bool: true},
	}
}

// strangers is objects that a heap of at most 60 has not.
func strangers() []api.Value { return []api.Value{ref(61), ref(300), ref(65536)} }

// nobody is numbers of no object of such a heap.
func nobody() []int { return []int{0, -1, 61, 65536, 65537, math.MinInt, math.MaxInt, 1<<32 + 1} }

func newHeap(t *testing.T, capacity, fuel, depth int) *heap.Heap {
	t.Helper()
	h, e := heap.New(capacity, fuel, depth)
	if e != api.OK {
		t.Fatal(e)
	}
	return h
}

// made is an object that was made without an error.
func made(t *testing.T, n int, err error) int {
	t.Helper()
	if err != nil {
		t.Fatal(err)
	}
	return n
}

// lay gives an object properties, nothing being entered.
func lay(t *testing.T, h *heap.Heap, o int, props ...api.Prop) {
	t.Helper()
	for _, p := range props {
		if ok, err := (heap.Ordinary{}).DefineOwnProperty(h, o, p.Key, p.Desc); !ok || err != nil {
			t.Fatalf("%d, %v: %v, %v", o, p, ok, err)
		}
	}
}

// fix prevents extensions, nothing being entered.
func fix(h *heap.Heap, o int) { heap.Ordinary{}.PreventExtensions(h, o) }

func object(t *testing.T, h *heap.Heap, proto api.Value, props ...api.Prop) int {
	t.Helper()
	n, err := h.Make(proto)
	o := made(t, n, err)
	lay(t, h, o, props...)
	return o
}

// fixed is an object that is not extensible.
func fixed(t *testing.T, h *heap.Heap, proto api.Value, props ...api.Prop) int {
	t.Helper()
	o := object(t, h, proto, props...)
	fix(h, o)
	return o
}

// native is a function that is a function of Go: a call of it costs one unit.
type native struct{ heap.Ordinary }

type does func(this api.Value, given []api.Value) (api.Value, error)

func (native) Call(h *heap.Heap, f int, this api.Value, given []api.Value) (api.Value, error) {
	return h.Own(f).(does)(this, given)
}

func addNative(t *testing.T, h *heap.Heap, d does) int {
	t.Helper()
	n, err := h.Add(api.CNative, null(), native{}, d)
	return made(t, n, err)
}

// giving is a function that answers a value.
func giving(t *testing.T, h *heap.Heap, v api.Value) int {
	t.Helper()
	return addNative(t, h, func(api.Value, []api.Value) (api.Value, error) { return v, nil })
}

// proxied is a proxy of an object, with a handler.
func proxied(t *testing.T, h *heap.Heap, target, handler int) int {
	t.Helper()
	n, err := proxy.New(h, ref(target), ref(handler))
	return made(t, n, err)
}

// fact is what a heap tells of an object beside its shape: its parameters, bytes, exports, or parts.
type fact struct {
	names  []string
	values []api.Value
	bytes  []byte
}

func factOf(h *heap.Heap, o int) fact {
	switch class, _ := h.Class(o); class {
	case api.CArguments, api.CNamespace, api.CProxy, api.CBuffer:
	default:
		return fact{}
	}
	names, _ := args.Names(h, o)
	f := fact{names: names}
	for _, name := range names {
		v, _ := args.Slot(h, o, name)
		f.values = append(f.values, v)
	}
	for i := range 10 {
		name, _, _ := args.Linked(h, o, i)
		f.names = append(f.names, name)
	}
	names, values, _ := namespace.Exports(h, o)
	f.names, f.values = append(f.names, names...), append(f.values, values...)
	target, handler, _ := proxy.Parts(h, o)
	f.values = append(f.values, target, handler)
	f.bytes, _ = typed.Bytes(h, o)
	return f
}

func sameFact(a, b fact) bool {
	return slices.Equal(a.names, b.names) && sameValues(a.values, b.values) && slices.Equal(a.bytes, b.bytes)
}

// moment is all that a heap tells at one moment, without anything being entered.
type moment struct {
	shapes []api.Shape
	facts  []fact
}

func now(h *heap.Heap) moment {
	m := moment{shapes: h.Shapes(), facts: make([]fact, 0, h.Len())}
	for i := range m.shapes {
		m.facts = append(m.facts, factOf(h, i+1))
	}
	return m
}

func sameMoment(a, b moment) bool {
	return sameShapes(a.shapes, b.shapes) && slices.EqualFunc(a.facts, b.facts, sameFact)
}

func shapeOf(t *testing.T, h *heap.Heap, o int) api.Shape {
	t.Helper()
	s, e := h.Shape(o)
	if e != api.OK {
		t.Fatal(e)
	}
	return s
}

func sameValue(a, b api.Value) bool {
	x, y := a.Num, b.Num
	a.Num, b.Num = 0, 0
	return a == b && (x != x && y != y || x == y && math.Signbit(x) == math.Signbit(y))
}

func sameDesc(a, b api.Desc) bool {
	return sameValue(a.Value, b.Value) && sameValue(a.Get, b.Get) && sameValue(a.Set, b.Set) && a.Writable == b.Writable && a.Enumerable == b.Enumerable && a.Configurable == b.Configurable
}

func sameValues(a, b []api.Value) bool { return slices.EqualFunc(a, b, sameValue) }

func sameProp(a, b api.Prop) bool { return a.Key == b.Key && sameDesc(a.Desc, b.Desc) }

func sameShape(a, b api.Shape) bool {
	return a.Class == b.Class && sameValue(a.Proto, b.Proto) && a.Extensible == b.Extensible && slices.EqualFunc(a.Props, b.Props, sameProp)
}

func sameShapes(a, b []api.Shape) bool { return slices.EqualFunc(a, b, sameShape) }

// sameError tells whether two errors are both none, the same number, or throws of the same.
func sameError(a, b error) bool {
	var x, y *api.Thrown
	if errors.As(a, &x) && errors.As(b, &y) {
		return x.Kind == y.Kind && sameValue(x.Value, y.Value)
	}
	return a == b
}

// act is one of the package's calls, or a call of a function: its values, of Step and Close the iterator's next, of Call the function, the receiver and the arguments; its number, which is Maker's kind, 1 of a Result that is done, and an iterator's object; and the cause of Close.
type act struct {
	name  string
	v     []api.Value
	n     int
	cause error
}

// ask is an act of values alone.
func ask(name string, v ...api.Value) act { return act{name: name, v: v} }

func makes(proto api.Value, kind int, its api.Value) act {
	return act{name: "Maker", v: []api.Value{proto, its}, n: kind}
}

func results(v api.Value, done int) act { return act{name: "Result", v: []api.Value{v}, n: done} }

func steps(o int, next api.Value) act { return act{name: "Step", v: []api.Value{next}, n: o} }

func closes(o int, next api.Value, cause error) act {
	return act{name: "Close", v: []api.Value{next}, n: o, cause: cause}
}

func (x act) String() string {
	return fmt.Sprintf("%s %.200s %d %v", x.name, fmt.Sprint(x.v), x.n, x.cause)
}

// iterator is what Step and Close are given.
func (x act) iterator() api.Iterator { return api.Iterator{Object: x.n, Next: x.v[0]} }

// said is an answer as a text: nothing, beside an error; that is all there may be.
func said[T any](x T, err error) (string, error) {
	switch {
	case err == nil:
		return fmt.Sprint(x), nil
	case !reflect.ValueOf(x).IsZero():
		return "stray " + fmt.Sprint(x), err
	}
	return "", err
}

// stepped is what Step answers: a value, or that there is none.
type stepped struct {
	v    api.Value
	over bool
}

// face is one of the package's calls, of what an act has.
type face func(h *heap.Heap, x act) (string, error)

func one[T any](f func(*heap.Heap, api.Value) (T, error)) face {
	return func(h *heap.Heap, x act) (string, error) { return said(f(h, x.v[0])) }
}

func two[T any](f func(h *heap.Heap, a, b api.Value) (T, error)) face {
	return func(h *heap.Heap, x act) (string, error) { return said(f(h, x.v[0], x.v[1])) }
}

func making(f func(*heap.Heap, api.Value, int, api.Value) (int, error)) face {
	return func(h *heap.Heap, x act) (string, error) { return said(f(h, x.v[0], x.n, x.v[1])) }
}

func resulting(f func(*heap.Heap, api.Value, bool) (int, error)) face {
	return func(h *heap.Heap, x act) (string, error) { return said(f(h, x.v[0], x.n == 1)) }
}

func stepping(f func(*heap.Heap, api.Iterator) (api.Value, bool, error)) face {
	return func(h *heap.Heap, x act) (string, error) {
		v, over, err := f(h, x.iterator())
		return said(stepped{v, over}, err)
	}
}

func closing(f func(*heap.Heap, api.Iterator, error) error) face {
	return func(h *heap.Heap, x act) (string, error) { return "", f(h, x.iterator(), x.cause) }
}

func refuel(n int) act { return act{name: "Refuel", n: n} }

func refueling(h *heap.Heap, x act) (string, error) {
	if e := h.Refuel(x.n); e != api.OK {
		return "", e
	}
	return "", nil
}

// calling enters Call, whoever made the function.
func calling(h *heap.Heap, x act) (string, error) { return said(h.Call(x.v[0].Id, x.v[1], x.v[2:])) }

// reading is the layer, by the package or by the second reading.
type reading map[string]face

func byPackage() reading {
	return reading{
		"Maker": making(iterate.Maker), "Next": one(iterate.Next), "Result": resulting(iterate.Result),
		"Get": one(iterate.Get), "Step": stepping(iterate.Step), "Close": closing(iterate.Close),
		"List": one(iterate.List), "ForOf": two(iterate.ForOf), "ForIn": one(iterate.ForIn), "Call": calling, "Refuel": refueling,
	}
}

// played is the act, done.
func (x act) played(h *heap.Heap) (string, error) { return x.playedBy(h, byPackage()) }

func (x act) playedBy(h *heap.Heap, by reading) (string, error) { return by[x.name](h, x) }

// is holds what an act comes to, and what it spends, against what these must be. An error has no answer beside it, and Close never has one.
func (x act) is(t *testing.T, h *heap.Heap, cost int, want any, wrong error) {
	t.Helper()
	answer := fmt.Sprint(want)
	if wrong != nil || x.name == "Close" {
		answer = ""
	}
	was := h.Fuel()
	got, err := x.played(h)
	if got != answer || !sameError(err, wrong) || was-h.Fuel() != cost {
		t.Errorf("%v: %.200s, %v, %d spent; want %.200s, %v, %d spent", x, got, err, was-h.Fuel(), answer, wrong, cost)
	}
}

// changes is what differs between two moments.
func changes(before, after []api.Shape) string {
	s := ""
	for i, x := range after {
		if i >= len(before) {
			s += fmt.Sprintf("%d is %v; ", i+1, x)
		} else if !sameShape(before[i], x) {
			s += fmt.Sprintf("%d: %v became %v; ", i+1, before[i], x)
		}
	}
	return s
}

// stays is what is does, of an act that changes nothing.
func (x act) stays(t *testing.T, h *heap.Heap, cost int, want any, wrong error) {
	t.Helper()
	before := now(h)
	x.is(t, h, cost, want, wrong)
	if after := now(h); !sameMoment(before, after) {
		t.Errorf("%v: %s", x, changes(before.shapes, after.shapes))
	}
}

// adds is what is does, of an act that changes nothing but that the heap has new objects behind all others: these.
func (x act) adds(t *testing.T, h *heap.Heap, cost int, want any, wrong error, made ...api.Shape) {
	t.Helper()
	before := h.Shapes()
	x.is(t, h, cost, want, wrong)
	if after := h.Shapes(); !sameShapes(after, append(before, made...)) {
		t.Errorf("%v: %s; want %v behind what was there", x, changes(before, after), made)
	}
}

// looks holds an object's shape against what it must be.
func looks(t *testing.T, h *heap.Heap, o int, want api.Shape) {
	t.Helper()
	if s := shapeOf(t, h, o); !sameShape(s, want) {
		t.Errorf("%d is %v; want %v", o, s, want)
	}
}

// bare is the shape of an ordinary object with the prototype null; listed that of an array of values; a result is what an iterator answers.
func bare(props ...api.Prop) api.Shape { return of(api.COrdinary, null(), props...) }

func of(class int, proto api.Value, props ...api.Prop) api.Shape {
	return api.Shape{Class: class, Proto: proto, Extensible: true, Props: props}
}

func listed(l ...api.Value) api.Shape {
	props := []api.Prop{is("length", data(num(float64(len(l))), "w"))}
	for i, v := range l {
		props = append(props, has(strconv.Itoa(i), v))
	}
	return of(api.CArray, null(), props...)
}

func result(v, done api.Value) api.Shape { return bare(has("value", v), has("done", done)) }

// over is the shape of the result that tells that there is nothing more.
func over() api.Shape { return result(undefined(), yes()) }
