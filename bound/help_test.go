package bound_test

// What the tests of this layer share: short names for values, heaps whose objects write down what is entered, and the calls in one row.

import (
	"errors"
	"fmt"
	"math"
	"reflect"
	"slices"
	"strconv"
	"strings"
	"testing"

	"cameo/api"
	"cameo/bound"
	"cameo/call"
	"cameo/heap"
	"cameo/value"
)

func undefined() api.Value    { return api.Value{Kind: api.KUndefined} }
func null() api.Value         { return api.Value{Kind: api.KNull} }
func yes() api.Value          { return api.Value{Kind: api.KBool, Bool: true} }
func no() api.Value           { return api.Value{Kind: api.KBool} }
func num(x float64) api.Value { return api.Value{Kind: api.KNum, Num: x} }
func text(s string) api.Value { return api.Value{Kind: api.KStr, Str: s} }
func symbol(n int) api.Value  { return api.Value{Kind: api.KSym, Id: n} }
func ref(n int) api.Value     { return api.Value{Kind: api.KRef, Id: n} }
func str(s string) api.Key    { return api.Key{Str: s} }
func sym(n int) api.Key       { return api.Key{Sym: n} }

func open(v api.Value) api.Desc {
	return api.Desc{Value: v, Writable: api.Yes, Enumerable: api.Yes, Configurable: api.Yes}
}

// has is a property of data, got one that a getter tells.
func has(k string, v api.Value) api.Prop { return api.Prop{Key: str(k), Desc: open(v)} }

func got(k string, f api.Value) api.Prop {
	return api.Prop{Key: str(k), Desc: api.Desc{Get: f, Configurable: api.Yes}}
}

// hasInstance is a property under the symbol that InstanceOf asks for.
func hasInstance(v api.Value) api.Prop {
	return api.Prop{Key: sym(api.SymHasInstance), Desc: open(v)}
}

// told is a property as a bound function has it.
func told(k string, v api.Value) api.Prop {
	return api.Prop{Key: str(k), Desc: api.Desc{Value: v, Writable: api.No, Enumerable: api.No, Configurable: api.Yes}}
}

var nan, below0, endless = math.NaN(), math.Copysign(0, -1), math.Inf(1)

// tooLong is made once, because it is long.
var tooLong = strings.Repeat("1", api.MaxStr+1)

// plain is values of every kind that are no objects.
func plain() []api.Value {
	return []api.Value{
		undefined(), null(), no(), yes(), num(0), num(below0), num(1), num(-0.5), num(1e300), num(nan), num(endless), num(-endless),
		text(""), text("0"), text("a"), text("false"), text("\xed\xa0\xbd"), text("\U0001f600"), symbol(1), symbol(api.SymHasInstance), symbol(65536),
	}
}

// broken is values that are not well formed.
func broken() []api.Value {
	return []api.Value{
		{}, {Kind: 8}, {Kind: -1}, {Num: 1}, {Id: 1}, {Kind: api.KUndefined, Num: 1}, {Kind: api.KNull, Id: 3}, {Kind: api.KNull, Num: below0}, {Kind: api.KBool, Str: "a"}, {Kind: api.KNum, Bool: true},
		{Kind: api.KStr, Id: 1}, {Kind: api.KStr, Str: "\xff"}, {Kind: api.KStr, Str: "\xed\xa0\xbd\xed\xb8\x80"}, {Kind: api.KStr, Str: tooLong},
		{Kind: api.KSym}, {Kind: api.KSym, Id: 65537}, {Kind: api.KSym, Id: 1, Num: 2},
		{Kind: api.KRef}, {Kind: api.KRef, Id: -1}, {Kind: api.KRef, Id: 65537}, {Kind: api.KRef, Id: 1, Str: "a"}, {Kind: api.KRef, Id: 1, Bool: true},
	}
}

// strangers is objects that a heap of at most 40 has not.
func strangers() []api.Value { return []api.Value{ref(41), ref(300), ref(65536)} }

// nobody is numbers of no object of such a heap.
func nobody() []int { return []int{0, -1, 41, 65536, 65537, math.MinInt, math.MaxInt, 1<<32 + 1} }

// values is so many numbers, from a first one on.
func values(first, n int) []api.Value {
	l := make([]api.Value, n)
	for i := range l {
		l[i] = num(float64(first + i))
	}
	return l
}

func newHeap(t *testing.T, capacity, fuel, depth int) *heap.Heap {
	t.Helper()
	h, e := heap.New(capacity, fuel, depth)
	if e != api.OK {
		t.Fatal(e)
	}
	return h
}

func made(t *testing.T, h *heap.Heap, proto api.Value) int {
	t.Helper()
	n, err := h.Make(proto)
	if err != nil {
		t.Fatal(err)
	}
	return n
}

// fn is a function of operations, class one that is a constructor, too.
func fn(t *testing.T, h *heap.Heap, body ...api.Op) int {
	t.Helper()
	n, err := call.New(h, null(), body, false)
	if err != nil {
		t.Fatal(err)
	}
	return n
}

func class(t *testing.T, h *heap.Heap, body ...api.Op) int {
	t.Helper()
	n, err := call.New(h, null(), body, true)
	if err != nil {
		t.Fatal(err)
	}
	return n
}

// giving is a function that answers a value, having spent 2 beside its call.
func giving(t *testing.T, h *heap.Heap, v api.Value) int {
	t.Helper()
	return fn(t, h, api.Op{Code: api.OConst, Val: v}, api.Op{Code: api.OReturn})
}

// bind binds a function, at no cost.
func bind(t *testing.T, h *heap.Heap, f int, this api.Value, args ...api.Value) int {
	t.Helper()
	fuel := h.Fuel()
	h.Refuel(1 << 20)
	o, err := bound.Bind(h, f, this, args)
	if err != nil {
		t.Fatal(err)
	}
	h.Refuel(fuel)
	return o
}

// lay puts a property there, at no cost, whatever the object's own methods are.
func lay(t *testing.T, h *heap.Heap, o int, props ...api.Prop) {
	t.Helper()
	for _, p := range props {
		if ok, err := (heap.Ordinary{}).DefineOwnProperty(h, o, p.Key, p.Desc); !ok || err != nil {
			t.Fatalf("lay %d %v: %v, %v", o, p, ok, err)
		}
	}
}

// diary is what was entered, in order: seers write down each method that this layer may enter.
type diary struct {
	lines []string
	fuel  int                            // what was left when the last line was written
	meet  func(n int, line string) error // what happens at the line with that number, ahead of anything else
}

func (d *diary) write(h *heap.Heap, words ...string) error {
	d.fuel = h.Fuel()
	d.lines = append(d.lines, strings.Join(words, " "))
	if d.meet == nil {
		return nil
	}
	return d.meet(len(d.lines)-1, d.lines[len(d.lines)-1])
}

func tell(v api.Value) string {
	s, e := value.Text(v)
	if e != api.OK {
		return e.Error()
	}
	return s
}

func tellAll(l []api.Value) []string {
	var words []string
	for _, v := range l {
		words = append(words, tell(v))
	}
	return words
}

func nameOf(k api.Key) string {
	if k.Sym != 0 {
		return "@" + strconv.Itoa(k.Sym)
	}
	return k.Str
}

// part is what a seer has: a diary, how it ends when it is called, or constructed, and under which name it writes that down.
type part struct {
	*diary
	name   string
	answer api.Value
	err    error
}

// seer is the methods of an ordinary object that writes down who asks it.
type seer struct{ heap.Ordinary }

func partOf(h *heap.Heap, o int) part { return h.Own(o).(part) }

func (m seer) GetPrototypeOf(h *heap.Heap, o int) (api.Value, error) {
	if err := partOf(h, o).write(h, "proto", tell(ref(o))); err != nil {
		return api.Value{}, err
	}
	return m.Ordinary.GetPrototypeOf(h, o)
}

// GetOwnProperty is asked by Get, too, without being entered: nothing has been spent then since that was written down.
func (m seer) GetOwnProperty(h *heap.Heap, o int, k api.Key) (api.Desc, bool, error) {
	p := partOf(h, o)
	if h.Fuel() != p.fuel {
		if err := p.write(h, "own", tell(ref(o)), nameOf(k)); err != nil {
			return api.Desc{}, false, err
		}
	}
	return m.Ordinary.GetOwnProperty(h, o, k)
}

func (m seer) Get(h *heap.Heap, o int, k api.Key, receiver api.Value) (api.Value, error) {
	if err := partOf(h, o).write(h, "get", tell(ref(o)), nameOf(k), tell(receiver)); err != nil {
		return api.Value{}, err
	}
	return m.Ordinary.Get(h, o, k, receiver)
}

// caller is a seer that can be called, builder one that can be constructed, too.
type caller struct{ seer }

func (caller) Call(h *heap.Heap, f int, this api.Value, args []api.Value) (api.Value, error) {
	p := partOf(h, f)
	if err := p.write(h, append([]string{"call", p.name, tell(this)}, tellAll(args)...)...); err != nil {
		return api.Value{}, err
	}
	return p.answer, p.err
}

type builder struct{ caller }

func (builder) Construct(h *heap.Heap, f int, args []api.Value, target int) (int, error) {
	p := partOf(h, f)
	if err := p.write(h, append([]string{"construct", p.name, tell(ref(target))}, tellAll(args)...)...); err != nil {
		return 0, err
	}
	return p.answer.Id, p.err
}

// native is a function that is a function of Go, and a constructor: what it builds is what it answers. A call of it costs one unit.
type native struct{ heap.Ordinary }

type does func(this api.Value, args []api.Value) (api.Value, error)

func (native) Call(h *heap.Heap, f int, this api.Value, args []api.Value) (api.Value, error) {
	return h.Own(f).(does)(this, args)
}

func (native) Construct(h *heap.Heap, f int, args []api.Value, target int) (int, error) {
	v, err := h.Own(f).(does)(ref(target), args)
	return v.Id, err
}

func addNative(t *testing.T, h *heap.Heap, d does) int {
	t.Helper()
	n, err := h.Add(api.CNative, null(), native{}, d)
	if err != nil {
		t.Fatal(err)
	}
	return n
}

func sameValue(a, b api.Value) bool {
	x, y := a.Num, b.Num
	a.Num, b.Num = 0, 0
	return a == b && (x != x && y != y || x == y && math.Signbit(x) == math.Signbit(y))
}

func sameDesc(a, b api.Desc) bool {
	return sameValue(a.Value, b.Value) && sameValue(a.Get, b.Get) && sameValue(a.Set, b.Set) && a.Writable == b.Writable && a.Enumerable == b.Enumerable && a.Configurable == b.Configurable
}

func sameShape(a, b api.Shape) bool {
	same := func(p, q api.Prop) bool { return p.Key == q.Key && sameDesc(p.Desc, q.Desc) }
	return a.Class == b.Class && a.Proto == b.Proto && a.Extensible == b.Extensible && slices.EqualFunc(a.Props, b.Props, same)
}

func sameShapes(a, b []api.Shape) bool { return slices.EqualFunc(a, b, sameShape) }

// sameError tells whether two errors are both none, the same number, or throws of the same.
func sameError(a, b error) bool {
	var x, y *api.Thrown
	if errors.As(a, &x) && errors.As(b, &y) {
		return x.Kind == y.Kind && sameValue(x.Value, y.Value)
	}
	return a == b
}

func typeError() error         { return &api.Thrown{Kind: api.XType} }
func rangeError() error        { return &api.Thrown{Kind: api.XRange} }
func thrown(v api.Value) error { return &api.Thrown{Kind: api.XValue, Value: v} }

// ends is errors of every sort, as programs may end by them.
func ends() []error {
	return []error{thrown(num(9)), thrown(ref(1)), typeError(), rangeError(), api.ErrFuel, api.ErrDepth, api.ErrFull}
}

// act is a call of the package, or a method of an object: one of the two that a bound function has of its own, or one that changes what is there.
type act struct {
	name   string
	f      int       // of all but the two that follow
	v, c   api.Value // of InstanceOf and HasInstance; v of Set and SetPrototypeOf, too
	this   api.Value // of Bind and Call
	args   []api.Value
	target int // of Construct
	k      api.Key
	d      api.Desc
}

// binding is what Target answers.
type binding struct {
	target int
	this   api.Value
	args   []api.Value
}

// said is an answer as a text: nothing, beside an error; that is all there may be.
func said[T any](x T, err error) (string, error) {
	v := reflect.ValueOf(x)
	zero := v.IsZero() || v.Kind() == reflect.Slice && v.Len() == 0
	switch {
	case err == nil:
		return fmt.Sprint(x), nil
	case !zero:
		return "stray " + fmt.Sprint(x), err
	}
	return "", err
}

// numbered is an Errno as an error.
func numbered(e api.Errno) error {
	if e == api.OK {
		return nil
	}
	return e
}

func target(h *heap.Heap, f int) (binding, error) {
	o, this, args, e := bound.Target(h, f)
	if len(args) == 0 {
		args = nil
	}
	return binding{o, this, args}, numbered(e)
}

// played is an act by the package, or by the heap.
func (x act) played(h *heap.Heap) (string, error) {
	switch x.name {
	case "Bind":
		return said(bound.Bind(h, x.f, x.this, x.args))
	case "Target":
		return said(target(h, x.f))
	case "InstanceOf":
		return said(bound.InstanceOf(h, x.v, x.c))
	case "HasInstance":
		return said(bound.HasInstance(h, x.c, x.v))
	case "Call":
		return said(h.Call(x.f, x.this, x.args))
	case "Construct":
		return said(h.Construct(x.f, x.args, x.target))
	case "Define":
		return said(h.DefineOwnProperty(x.f, x.k, x.d))
	case "Set":
		return said(h.Set(x.f, x.k, x.v, ref(x.f)))
	case "Delete":
		return said(h.Delete(x.f, x.k))
	case "SetPrototypeOf":
		return said(h.SetPrototypeOf(x.f, x.v))
	case "PreventExtensions":
		return said(h.PreventExtensions(x.f))
	}
	panic(x.name)
}

// faces is the names of the package's calls.
func faces() []string { return []string{"Bind", "Target", "InstanceOf", "HasInstance"} }

// is holds what an act comes to, and what it spends, against what these must be. An error has no answer beside it.
func (x act) is(t *testing.T, h *heap.Heap, cost int, want any, wrong error) {
	t.Helper()
	answer := fmt.Sprint(want)
	if wrong != nil {
		answer = ""
	}
	was := h.Fuel()
	got, err := x.played(h)
	if got != answer || !sameError(err, wrong) || was-h.Fuel() != cost {
		t.Errorf("%s: %.200s, %v, %d spent; want %.200s, %v, %d spent", x.name, got, err, was-h.Fuel(), answer, wrong, cost)
	}
}

// Acts of an object by its number.
func binds(f int, this api.Value, args ...api.Value) act {
	return act{name: "Bind", f: f, this: this, args: args}
}

func calls(f int, this api.Value, args ...api.Value) act {
	return act{name: "Call", f: f, this: this, args: args}
}

func constructs(f, target int, args ...api.Value) act {
	return act{name: "Construct", f: f, target: target, args: args}
}

func targetOf(f int) act            { return act{name: "Target", f: f} }
func isInstance(v, c api.Value) act { return act{name: "InstanceOf", v: v, c: c} }
func asInstance(c, v api.Value) act { return act{name: "HasInstance", v: v, c: c} }

// looks holds an object's shape against what it must be.
func looks(t *testing.T, h *heap.Heap, o int, want api.Shape) {
	t.Helper()
	if s, e := h.Shape(o); e != api.OK || !sameShape(s, want) {
		t.Errorf("%d is %v, %v; want %v", o, s, e, want)
	}
}

// boundShape is the shape of a bound function.
func boundShape(proto api.Value, props ...api.Prop) api.Shape {
	return api.Shape{Class: api.CBound, Proto: proto, Extensible: true, Props: props}
}
