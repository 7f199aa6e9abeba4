package namespace_test

// What the tests of this layer share: short names for values, heaps with namespaces, all that is told of these, and the calls and methods in one row.

import (
	"errors"
	"fmt"
	"math"
	"reflect"
	"slices"
	"strings"
	"testing"

	"cameo/api"
	"cameo/heap"
	"cameo/namespace"
)

func undefined() api.Value    { return api.Value{Kind: api.KUndefined} }
func null() api.Value         { return api.Value{Kind: api.KNull} }
func yes() api.Value          { return api.Value{Kind: api.KBool, Bool: true} }
func no() api.Value           { return api.Value{Kind: api.KBool} }
func num(x float64) api.Value { return api.Value{Kind: api.KNum, Num: x} }
func text(s string) api.Value { return api.Value{Kind: api.KStr, Str: s} }
func symbol(n int) api.Value  { return api.Value{Kind: api.KSym, Id: n} }
func ref(n int) api.Value     { return api.Value{Kind: api.KRef, Id: n} }
func str(s string) api.Key    { return api.Key{Str: s} }
func sym(n int) api.Key       { return api.Key{Sym: n} }
func tag() api.Key            { return sym(api.SymToStringTag) }

var nan, below0, endless = math.NaN(), math.Copysign(0, -1), math.Inf(1)

// The surrogates of U+1F600, each one alone.
const (
	high = "\xed\xa0\xbd"
	low  = "\xed\xb8\x80"
)

// tooLong is made once, because it is long.
var tooLong = strings.Repeat("x", api.MaxStr+1)

// data and accessor are whole descriptors; flags are those that are Yes: w, e, c.
func data(v api.Value, flags string) api.Desc {
	return api.Desc{Value: v, Writable: flag(flags, "w"), Enumerable: flag(flags, "e"), Configurable: flag(flags, "c")}
}

func accessor(get, set api.Value, flags string) api.Desc {
	return api.Desc{Get: get, Set: set, Enumerable: flag(flags, "e"), Configurable: flag(flags, "c")}
}

func flag(flags, c string) api.Tri {
	if strings.Contains(flags, c) {
		return api.Yes
	}
	return api.No
}

// plain is values of every kind that are no objects.
func plain() []api.Value {
	return []api.Value{
		undefined(), null(), no(), yes(), num(0), num(below0), num(1), num(-0.5), num(1e300), num(nan), num(endless), num(-endless),
		text(""), text("0"), text("a"), text("Module"), text(high), text("\U0001f600"), symbol(1), symbol(api.SymToStringTag), symbol(65536),
	}
}

// broken is values that are not well formed.
func broken() []api.Value {
	return []api.Value{
		{}, {Kind: 8}, {Kind: -1}, {Num: 1}, {Id: 1}, {Kind: api.KUndefined, Num: 1}, {Kind: api.KNull, Id: 3}, {Kind: api.KNull, Num: below0}, {Kind: api.KBool, Str: "a"}, {Kind: api.KNum, Bool: true},
		{Kind: api.KStr, Id: 1}, {Kind: api.KStr, Str: "\xff"}, {Kind: api.KStr, Str: high + low}, {Kind: api.KStr, Str: tooLong},
		{Kind: api.KSym}, {Kind: api.KSym, Id: 65537}, {Kind: api.KSym, Id: 1, Num: 2},
		{Kind: api.KRef}, {Kind: api.KRef, Id: -1}, {Kind: api.KRef, Id: 65537}, {Kind: api.KRef, Id: 1, Str: "a"}, {Kind: api.KRef, Id: 1, Bool: true},
	}
}

// noStrings is bytes that are none.
func noStrings() []string {
	return []string{
		"\xff", "\x80", "\xc2", "\xe2\x82", "\xf0\x9f\x98", "\xed\xa0", "\xed", "a\xff", "\xffa", "ab\x80cd", "\xc0\x80", "\xe0\x9f\xbf", "\xf0\x8f\xbf\xbf", "\xf4\x90\x80\x80", "\xf8\x88\x80\x80\x80",
		high + low, "a" + high + low, high + low + "a", high + high + low, "\xed\xaf\xbf\xed\xbf\xbf",
	}
}

// strangers is objects that a heap of at most 60 has not.
func strangers() []api.Value { return []api.Value{ref(61), ref(300), ref(65536)} }

// nobody is numbers of no object of such a heap.
func nobody() []int { return []int{0, -1, 61, 65536, 65537, math.MinInt, math.MaxInt, 1<<32 + 1} }

func newHeap(t *testing.T, capacity, fuel, depth int) *heap.Heap {
	t.Helper()
	h, e := heap.New(capacity, fuel, depth)
	if e != api.OK {
		t.Fatal(e)
	}
	return h
}

// made is an object that was made without an error.
func made(t *testing.T, n int, err error) int {
	t.Helper()
	if err != nil {
		t.Fatal(err)
	}
	return n
}

func object(t *testing.T, h *heap.Heap, proto api.Value, props ...api.Prop) int {
	t.Helper()
	n, err := h.Make(proto)
	o := made(t, n, err)
	for _, p := range props {
		if ok, err := (heap.Ordinary{}).DefineOwnProperty(h, o, p.Key, p.Desc); !ok || err != nil {
			t.Fatalf("%d, %v: %v, %v", o, p, ok, err)
		}
	}
	return o
}

// has is a property of data that anybody may change.
func has(k api.Key, v api.Value) api.Prop { return api.Prop{Key: k, Desc: data(v, "wec")} }

// native is a function that is a function of Go: a call of it costs one unit.
type native struct{ heap.Ordinary }

type does func(this api.Value, given []api.Value) (api.Value, error)

func (native) Call(h *heap.Heap, f int, this api.Value, given []api.Value) (api.Value, error) {
	return h.Own(f).(does)(this, given)
}

func addNative(t *testing.T, h *heap.Heap, d does) int {
	t.Helper()
	n, err := h.Add(api.CNative, null(), native{}, d)
	return made(t, n, err)
}

// of is a new namespace.
func of(t *testing.T, h *heap.Heap, names ...string) int {
	t.Helper()
	n, err := namespace.New(h, names)
	return made(t, n, err)
}

func bind(t *testing.T, h *heap.Heap, o int, name string, v api.Value) {
	t.Helper()
	if e := namespace.Bind(h, o, name, v); e != api.OK {
		t.Fatalf("Bind(%d, %q, %v): %v", o, name, v, e)
	}
}

// fact is what Exports answers.
type fact struct {
	names  []string
	values []api.Value
}

func exportsOf(h *heap.Heap, o int) (fact, api.Errno) {
	names, values, e := namespace.Exports(h, o)
	return fact{names, values}, e
}

func sameFact(a, b fact) bool {
	return slices.Equal(a.names, b.names) && slices.EqualFunc(a.values, b.values, sameValue)
}

// exports holds what Exports answers against what it must: names, each with its value.
func exports(t *testing.T, h *heap.Heap, o int, want fact) {
	t.Helper()
	fuel := h.Fuel()
	if f, e := exportsOf(h, o); !sameFact(f, want) || e != api.OK || h.Fuel() != fuel {
		t.Errorf("20.9: Exports(%d): %.200q, %.200v, %v; want %.200q, %.200v", o, f.names, f.values, e, want.names, want.values)
	}
}

// namespaceShape is the shape of any namespace.
func namespaceShape() api.Shape {
	return api.Shape{Class: api.CNamespace, Proto: null(), Props: []api.Prop{{Key: tag(), Desc: data(text("Module"), "")}}}
}

// moment is all that a heap tells at one moment, without anything being entered.
type moment struct {
	shapes []api.Shape
	facts  []fact
	errors []api.Errno
}

func now(h *heap.Heap) moment {
	m := moment{shapes: h.Shapes()}
	for i := range m.shapes {
		f, e := exportsOf(h, i+1)
		m.facts, m.errors = append(m.facts, f), append(m.errors, e)
	}
	return m
}

func sameMoment(a, b moment) bool {
	return sameShapes(a.shapes, b.shapes) && slices.EqualFunc(a.facts, b.facts, sameFact) && slices.Equal(a.errors, b.errors)
}

func sameValue(a, b api.Value) bool {
	x, y := a.Num, b.Num
	a.Num, b.Num = 0, 0
	return a == b && (x != x && y != y || x == y && math.Signbit(x) == math.Signbit(y))
}

func sameDesc(a, b api.Desc) bool {
	return sameValue(a.Value, b.Value) && sameValue(a.Get, b.Get) && sameValue(a.Set, b.Set) && a.Writable == b.Writable && a.Enumerable == b.Enumerable && a.Configurable == b.Configurable
}

func sameShape(a, b api.Shape) bool {
	same := func(p, q api.Prop) bool { return p.Key == q.Key && sameDesc(p.Desc, q.Desc) }
	return a.Class == b.Class && a.Proto == b.Proto && a.Extensible == b.Extensible && slices.EqualFunc(a.Props, b.Props, same)
}

func sameShapes(a, b []api.Shape) bool { return slices.EqualFunc(a, b, sameShape) }

// sameError tells whether two errors are both none, the same number, or throws of the same.
func sameError(a, b error) bool {
	var x, y *api.Thrown
	if errors.As(a, &x) && errors.As(b, &y) {
		return x.Kind == y.Kind && sameValue(x.Value, y.Value)
	}
	return a == b
}

func referenceError() error { return &api.Thrown{Kind: api.XReference} }
func typeError() error      { return &api.Thrown{Kind: api.XType} }

// own is what GetOwnProperty answers.
type own struct {
	d  api.Desc
	ok bool
}

// told is an own property that is there.
func told(d api.Desc) own { return own{d, true} }

// act is one of the thirteen methods, with its arguments.
type act struct {
	name     string
	o        int
	k        api.Key
	d        api.Desc
	v        api.Value // of SetPrototypeOf and Set
	receiver api.Value // of Get, Set and Call
	args     []api.Value
	target   int // of Construct
}

// said is an answer as a text: nothing, beside an error; that is all there may be.
func said[T any](x T, err error) (string, error) {
	v := reflect.ValueOf(x)
	zero := v.IsZero() || v.Kind() == reflect.Slice && v.Len() == 0
	switch {
	case err == nil:
		return fmt.Sprint(x), nil
	case !zero:
		return "stray " + fmt.Sprint(x), err
	}
	return "", err
}

func ownOf(h *heap.Heap, o int, k api.Key) (own, error) {
	d, ok, err := h.GetOwnProperty(o, k)
	return own{d, ok}, err
}

// played is the act, done.
func (x act) played(h *heap.Heap) (string, error) {
	switch x.name {
	case "GetPrototypeOf":
		return said(h.GetPrototypeOf(x.o))
	case "SetPrototypeOf":
		return said(h.SetPrototypeOf(x.o, x.v))
	case "IsExtensible":
		return said(h.IsExtensible(x.o))
	case "PreventExtensions":
		return said(h.PreventExtensions(x.o))
	case "GetOwnProperty":
		return said(ownOf(h, x.o, x.k))
	case "DefineOwnProperty":
		return said(h.DefineOwnProperty(x.o, x.k, x.d))
	case "HasProperty":
		return said(h.HasProperty(x.o, x.k))
	case "Get":
		return said(h.Get(x.o, x.k, x.receiver))
	case "Set":
		return said(h.Set(x.o, x.k, x.v, x.receiver))
	case "Delete":
		return said(h.Delete(x.o, x.k))
	case "OwnPropertyKeys":
		return said(h.OwnPropertyKeys(x.o))
	case "Call":
		return said(h.Call(x.o, x.receiver, x.args))
	case "Construct":
		return said(h.Construct(x.o, x.args, x.target))
	}
	panic(x.name)
}

func (x act) String() string {
	return fmt.Sprintf("%s of %d: %.40q %d, %.200s, %.80s, %.80s", x.name, x.o, x.k.Str, x.k.Sym, fmt.Sprint(x.d), fmt.Sprint(x.v), fmt.Sprint(x.receiver))
}

// The acts, each with arguments of its own.
func getProto(o int) act              { return act{name: "GetPrototypeOf", o: o} }
func setProto(o int, v api.Value) act { return act{name: "SetPrototypeOf", o: o, v: v} }
func isExt(o int) act                 { return act{name: "IsExtensible", o: o} }
func prevent(o int) act               { return act{name: "PreventExtensions", o: o} }
func getOwn(o int, k api.Key) act     { return act{name: "GetOwnProperty", o: o, k: k} }
func hasProp(o int, k api.Key) act    { return act{name: "HasProperty", o: o, k: k} }
func deletes(o int, k api.Key) act    { return act{name: "Delete", o: o, k: k} }
func keysOf(o int) act                { return act{name: "OwnPropertyKeys", o: o} }

func defines(o int, k api.Key, d api.Desc) act {
	return act{name: "DefineOwnProperty", o: o, k: k, d: d}
}

func gets(o int, k api.Key, receiver api.Value) act {
	return act{name: "Get", o: o, k: k, receiver: receiver}
}

func sets(o int, k api.Key, v, receiver api.Value) act {
	return act{name: "Set", o: o, k: k, v: v, receiver: receiver}
}

func calls(o int, this api.Value, args ...api.Value) act {
	return act{name: "Call", o: o, receiver: this, args: args}
}

func constructs(o, target int, args ...api.Value) act {
	return act{name: "Construct", o: o, target: target, args: args}
}

// is holds what an act comes to, and what it spends, against what these must be. An error has no answer beside it.
func (x act) is(t *testing.T, h *heap.Heap, cost int, want any, wrong error) {
	t.Helper()
	answer := fmt.Sprint(want)
	if wrong != nil {
		answer = ""
	}
	was := h.Fuel()
	got, err := x.played(h)
	if got != answer || !sameError(err, wrong) || was-h.Fuel() != cost {
		t.Errorf("%v: %.200s, %v, %d spent; want %.200s, %v, %d spent", x, got, err, was-h.Fuel(), answer, wrong, cost)
	}
}

// comes holds an act against what it must come to, with each fuel and with each depth; nothing may be otherwise behind it. The path tells how deep each method is that it enters, in order: so many units it costs.
func (x act) comes(t *testing.T, build func(t *testing.T, depth int) *heap.Heap, path string, want any, wrong error) {
	t.Helper()
	for fuel := range len(path) + 2 {
		h := build(t, 60)
		h.Refuel(fuel)
		if fuel < len(path) {
			x.stays(t, h, fuel, nil, api.ErrFuel)
		} else {
			x.stays(t, h, len(path), want, wrong)
		}
	}
	for depth := 1; depth < 9; depth++ {
		h := build(t, depth)
		h.Refuel(100)
		if at := strings.IndexFunc(path, func(c rune) bool { return int(c-'0') > depth }); at >= 0 {
			x.stays(t, h, at+1, nil, api.ErrDepth)
		} else {
			x.stays(t, h, len(path), want, wrong)
		}
	}
}

// stays is what is does, of an act that changes nothing.
func (x act) stays(t *testing.T, h *heap.Heap, cost int, want any, wrong error) {
	t.Helper()
	before := now(h)
	x.is(t, h, cost, want, wrong)
	if after := now(h); !sameMoment(before, after) {
		t.Errorf("%v: %v became %v", x, before, after)
	}
}
