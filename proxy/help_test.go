package proxy_test

// What the tests of this layer share: short names for values, heaps whose objects write down what is entered, and the calls and methods in one row.

import (
	"errors"
	"fmt"
	"math"
	"reflect"
	"slices"
	"strconv"
	"strings"
	"testing"

	"cameo/api"
	"cameo/call"
	"cameo/heap"
	"cameo/proxy"
	"cameo/value"
)

func undefined() api.Value    { return api.Value{Kind: api.KUndefined} }
func null() api.Value         { return api.Value{Kind: api.KNull} }
func yes() api.Value          { return api.Value{Kind: api.KBool, Bool: true} }
func no() api.Value           { return api.Value{Kind: api.KBool} }
func num(x float64) api.Value { return api.Value{Kind: api.KNum, Num: x} }
func text(s string) api.Value { return api.Value{Kind: api.KStr, Str: s} }
func symbol(n int) api.Value  { return api.Value{Kind: api.KSym, Id: n} }
func ref(n int) api.Value     { return api.Value{Kind: api.KRef, Id: n} }
func str(s string) api.Key    { return api.Key{Str: s} }
func sym(n int) api.Key       { return api.Key{Sym: n} }

func open(v api.Value) api.Desc {
	return api.Desc{Value: v, Writable: api.Yes, Enumerable: api.Yes, Configurable: api.Yes}
}

// shut is data that nobody may change, and that is enumerated.
func shut(v api.Value) api.Desc {
	return api.Desc{Value: v, Writable: api.No, Enumerable: api.Yes, Configurable: api.No}
}

// data and accessor are whole descriptors.
func data(v api.Value, w, e, c api.Tri) api.Desc {
	return api.Desc{Value: v, Writable: w, Enumerable: e, Configurable: c}
}

func accessor(g, s api.Value, e, c api.Tri) api.Desc {
	return api.Desc{Get: g, Set: s, Enumerable: e, Configurable: c}
}

// has is a property of data that anybody may change, is any property.
func has(k string, v api.Value) api.Prop { return api.Prop{Key: str(k), Desc: open(v)} }

func is(k string, d api.Desc) api.Prop { return api.Prop{Key: str(k), Desc: d} }

// got is a property that a getter tells.
func got(k string, f int) api.Prop {
	return is(k, accessor(ref(f), undefined(), api.Yes, api.Yes))
}

var nan, below0, endless = math.NaN(), math.Copysign(0, -1), math.Inf(1)

// tooLong is made once, because it is long.
var tooLong = strings.Repeat("1", api.MaxStr+1)

// falsy is values that are not truthy, truthy such that are, and no objects.
func falsy() []api.Value {
	return []api.Value{undefined(), null(), no(), num(0), num(below0), num(nan), text("")}
}

func truthy() []api.Value {
	return []api.Value{yes(), num(1), num(-0.5), num(1e300), num(endless), num(-endless), text("0"), text("a"), text("false"), text("\xed\xa0\xbd"), text("\U0001f600"), symbol(1), symbol(65536)}
}

// plain is values of every kind that are no objects.
func plain() []api.Value { return append(falsy(), truthy()...) }

// broken is values that are not well formed.
func broken() []api.Value {
	return []api.Value{
		{}, {Kind: 8}, {Kind: -1}, {Num: 1}, {Id: 1}, {Kind: api.KUndefined, Num: 1}, {Kind: api.KNull, Id: 3}, {Kind: api.KNull, Num: below0}, {Kind: api.KBool, Str: "a"}, {Kind: api.KNum, Bool: true},
		{Kind: api.KStr, Id: 1}, {Kind: api.KStr, Str: "\xff"}, {Kind: api.KStr, Str: "\xed\xa0\xbd\xed\xb8\x80"}, {Kind: api.KStr, Str: tooLong},
		{Kind: api.KSym}, {Kind: api.KSym, Id: 65537}, {Kind: api.KSym, Id: 1, Num: 2},
		{Kind: api.KRef}, {Kind: api.KRef, Id: -1}, {Kind: api.KRef, Id: 65537}, {Kind: api.KRef, Id: 1, Str: "a"}, {Kind: api.KRef, Id: 1, Bool: true},
	}
}

// strangers is objects that a heap of at most 60 has not.
func strangers() []api.Value { return []api.Value{ref(61), ref(300), ref(65536)} }

// nobody is numbers of no object of such a heap.
func nobody() []int { return []int{0, -1, 61, 65536, 65537, math.MinInt, math.MaxInt, 1<<32 + 1} }

// values is so many numbers, from a first one on.
func values(first, n int) []api.Value {
	l := make([]api.Value, n)
	for i := range l {
		l[i] = num(float64(first + i))
	}
	return l
}

func newHeap(t *testing.T, capacity, fuel, depth int) *heap.Heap {
	t.Helper()
	h, e := heap.New(capacity, fuel, depth)
	if e != api.OK {
		t.Fatal(e)
	}
	return h
}

// made is an object that was made without an error.
func made(t *testing.T, n int, err error) int {
	t.Helper()
	if err != nil {
		t.Fatal(err)
	}
	return n
}

func ordinary(t *testing.T, h *heap.Heap, proto api.Value, props ...api.Prop) int {
	t.Helper()
	n, err := h.Make(proto)
	o := made(t, n, err)
	lay(t, h, o, props...)
	return o
}

// fn is a function of operations, class one that is a constructor, too.
func fn(t *testing.T, h *heap.Heap, body ...api.Op) int {
	t.Helper()
	n, err := call.New(h, null(), body, false)
	return made(t, n, err)
}

func class(t *testing.T, h *heap.Heap, body ...api.Op) int {
	t.Helper()
	n, err := call.New(h, null(), body, true)
	return made(t, n, err)
}

// giving is a function that answers a value, having spent 2 beside its call.
func giving(t *testing.T, h *heap.Heap, v api.Value) int {
	t.Helper()
	return fn(t, h, api.Op{Code: api.OConst, Val: v}, api.Op{Code: api.OReturn})
}

// of is a new proxy of objects by their numbers.
func of(t *testing.T, h *heap.Heap, target, handler int) int {
	t.Helper()
	n, err := proxy.New(h, ref(target), ref(handler))
	return made(t, n, err)
}

// lay puts properties there, at no cost, whatever the object's own methods are.
func lay(t *testing.T, h *heap.Heap, o int, props ...api.Prop) {
	t.Helper()
	for _, p := range props {
		if ok, err := (heap.Ordinary{}).DefineOwnProperty(h, o, p.Key, p.Desc); !ok || err != nil {
			t.Fatalf("lay %d %v: %v, %v", o, p, ok, err)
		}
	}
}

// fix takes care that an object gets no new properties, at no cost.
func fix(h *heap.Heap, o int) { heap.Ordinary{}.PreventExtensions(h, o) }

// native is a function that is a function of Go, and a constructor: what it builds is what it answers. A call of it costs one unit.
type native struct{ heap.Ordinary }

type does func(this api.Value, args []api.Value) (api.Value, error)

func (native) Call(h *heap.Heap, f int, this api.Value, args []api.Value) (api.Value, error) {
	return h.Own(f).(does)(this, args)
}

func (native) Construct(h *heap.Heap, f int, args []api.Value, target int) (int, error) {
	v, err := h.Own(f).(does)(ref(target), args)
	return v.Id, err
}

func addNative(t *testing.T, h *heap.Heap, d does) int {
	t.Helper()
	n, err := h.Add(api.CNative, null(), native{}, d)
	return made(t, n, err)
}

func sameValue(a, b api.Value) bool {
	x, y := a.Num, b.Num
	a.Num, b.Num = 0, 0
	return a == b && (x != x && y != y || x == y && math.Signbit(x) == math.Signbit(y))
}

func sameDesc(a, b api.Desc) bool {
	return sameValue(a.Value, b.Value) && sameValue(a.Get, b.Get) && sameValue(a.Set, b.Set) && a.Writable == b.Writable && a.Enumerable == b.Enumerable && a.Configurable == b.Configurable
}

func sameShape(a, b api.Shape) bool {
	same := func(p, q api.Prop) bool { return p.Key == q.Key && sameDesc(p.Desc, q.Desc) }
	return a.Class == b.Class && a.Proto == b.Proto && a.Extensible == b.Extensible && slices.EqualFunc(a.Props, b.Props, same)
}

func sameShapes(a, b []api.Shape) bool { return slices.EqualFunc(a, b, sameShape) }

// sameError tells whether two errors are both none, the same number, or throws of the same.
func sameError(a, b error) bool {
	var x, y *api.Thrown
	if errors.As(a, &x) && errors.As(b, &y) {
		return x.Kind == y.Kind && sameValue(x.Value, y.Value)
	}
	return a == b
}

func typeError() error         { return &api.Thrown{Kind: api.XType} }
func thrown(v api.Value) error { return &api.Thrown{Kind: api.XValue, Value: v} }

// ends is errors of every sort, as programs may end by them.
func ends() []error {
	return []error{thrown(num(9)), thrown(ref(1)), typeError(), &api.Thrown{Kind: api.XRange}, api.ErrFuel, api.ErrDepth, api.ErrFull}
}

func tell(v api.Value) string {
	s, e := value.Text(v)
	if e != api.OK {
		return e.Error()
	}
	return s
}

func nameOf(k api.Key) string {
	if k.Sym != 0 {
		return "@" + strconv.Itoa(k.Sym)
	}
	return k.Str
}

// own is what GetOwnProperty answers.
type own struct {
	d  api.Desc
	ok bool
}

// pair is what Parts answers.
type pair struct{ target, handler api.Value }

// act is a call of the package, or one of the thirteen methods.
type act struct {
	name     string
	o        int // of all but New and Traps
	k        api.Key
	d        api.Desc
	v        api.Value // of SetPrototypeOf and Set; New's target
	receiver api.Value // of Get, Set and Call; New's handler
	args     []api.Value
	target   int // of Construct
}

// said is an answer as a text: nothing, beside an error; that is all there may be.
func said[T any](x T, err error) (string, error) {
	v := reflect.ValueOf(x)
	zero := v.IsZero() || v.Kind() == reflect.Slice && v.Len() == 0
	switch {
	case err == nil:
		return fmt.Sprint(x), nil
	case !zero:
		return "stray " + fmt.Sprint(x), err
	}
	return "", err
}

// numbered is an Errno as an error.
func numbered(e api.Errno) error {
	if e == api.OK {
		return nil
	}
	return e
}

func ownOf(h *heap.Heap, o int, k api.Key) (own, error) {
	d, ok, err := h.GetOwnProperty(o, k)
	return own{d, ok}, err
}

func partsOf(h *heap.Heap, o int) (pair, error) {
	target, handler, e := proxy.Parts(h, o)
	return pair{target, handler}, numbered(e)
}

// played is an act by the package, or by the heap.
func (x act) played(h *heap.Heap) (string, error) {
	switch x.name {
	case "New":
		return said(proxy.New(h, x.v, x.receiver))
	case "Revoke":
		return said(struct{}{}, numbered(proxy.Revoke(h, x.o)))
	case "Parts":
		return said(partsOf(h, x.o))
	}
	return x.entered(h)
}

// entered is one of the thirteen.
func (x act) entered(h *heap.Heap) (string, error) {
	switch x.name {
	case "GetPrototypeOf":
		return said(h.GetPrototypeOf(x.o))
	case "SetPrototypeOf":
		return said(h.SetPrototypeOf(x.o, x.v))
	case "IsExtensible":
		return said(h.IsExtensible(x.o))
	case "PreventExtensions":
		return said(h.PreventExtensions(x.o))
	case "GetOwnProperty":
		return said(ownOf(h, x.o, x.k))
	case "DefineOwnProperty":
		return said(h.DefineOwnProperty(x.o, x.k, x.d))
	case "HasProperty":
		return said(h.HasProperty(x.o, x.k))
	case "Get":
		return said(h.Get(x.o, x.k, x.receiver))
	case "Set":
		return said(h.Set(x.o, x.k, x.v, x.receiver))
	case "Delete":
		return said(h.Delete(x.o, x.k))
	case "OwnPropertyKeys":
		return said(h.OwnPropertyKeys(x.o))
	case "Call":
		return said(h.Call(x.o, x.receiver, x.args))
	case "Construct":
		return said(h.Construct(x.o, x.args, x.target))
	}
	panic(x.name)
}

// of is the act of another object, which is the target of its own Construct, too.
func (x act) of(o int) act {
	x.o, x.target = o, o
	return x
}

// is holds what an act comes to, and what it spends, against what these must be. An error has no answer beside it.
func (x act) is(t *testing.T, h *heap.Heap, cost int, want any, wrong error) {
	t.Helper()
	answer := fmt.Sprint(want)
	if wrong != nil {
		answer = ""
	}
	was := h.Fuel()
	got, err := x.played(h)
	if got != answer || !sameError(err, wrong) || was-h.Fuel() != cost {
		t.Errorf("%s of %d: %.200s, %v, %d spent; want %.200s, %v, %d spent", x.name, x.o, got, err, was-h.Fuel(), answer, wrong, cost)
	}
}

// The acts, each with arguments of its own.
func getProto(o int) act                 { return act{name: "GetPrototypeOf", o: o} }
func setProto(o int, v api.Value) act    { return act{name: "SetPrototypeOf", o: o, v: v} }
func isExt(o int) act                    { return act{name: "IsExtensible", o: o} }
func prevent(o int) act                  { return act{name: "PreventExtensions", o: o} }
func getOwn(o int, k api.Key) act        { return act{name: "GetOwnProperty", o: o, k: k} }
func hasProp(o int, k api.Key) act       { return act{name: "HasProperty", o: o, k: k} }
func deletes(o int, k api.Key) act       { return act{name: "Delete", o: o, k: k} }
func keysOf(o int) act                   { return act{name: "OwnPropertyKeys", o: o} }
func news(target, handler api.Value) act { return act{name: "New", v: target, receiver: handler} }
func revokes(o int) act                  { return act{name: "Revoke", o: o} }
func tells(o int) act                    { return act{name: "Parts", o: o} }

func defines(o int, k api.Key, d api.Desc) act {
	return act{name: "DefineOwnProperty", o: o, k: k, d: d}
}

func gets(o int, k api.Key, receiver api.Value) act {
	return act{name: "Get", o: o, k: k, receiver: receiver}
}

func sets(o int, k api.Key, v, receiver api.Value) act {
	return act{name: "Set", o: o, k: k, v: v, receiver: receiver}
}

func calls(o int, this api.Value, args ...api.Value) act {
	return act{name: "Call", o: o, receiver: this, args: args}
}

func constructs(o, target int, args ...api.Value) act {
	return act{name: "Construct", o: o, target: target, args: args}
}

// looks holds an object's shape against what it must be.
func looks(t *testing.T, h *heap.Heap, o int, want api.Shape) {
	t.Helper()
	if s, e := h.Shape(o); e != api.OK || !sameShape(s, want) {
		t.Errorf("%d is %v, %v; want %v", o, s, e, want)
	}
}

// proxyShape is the shape of any proxy.
func proxyShape() api.Shape { return api.Shape{Class: api.CProxy, Proto: null(), Extensible: true} }
