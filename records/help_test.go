package records_test

// What the tests of this layer share: short names for values, heaps whose objects write down what is entered, and the calls in one row.

import (
	"errors"
	"fmt"
	"math"
	"reflect"
	"slices"
	"strconv"
	"strings"
	"testing"

	"cameo/api"
	"cameo/call"
	"cameo/heap"
	"cameo/records"
	"cameo/value"
)

func undefined() api.Value    { return api.Value{Kind: api.KUndefined} }
func null() api.Value         { return api.Value{Kind: api.KNull} }
func yes() api.Value          { return api.Value{Kind: api.KBool, Bool: true} }
func no() api.Value           { return api.Value{Kind: api.KBool} }
func num(x float64) api.Value { return api.Value{Kind: api.KNum, Num: x} }
func text(s string) api.Value { return api.Value{Kind: api.KStr, Str: s} }
func symbol(n int) api.Value  { return api.Value{Kind: api.KSym, Id: n} }
func ref(n int) api.Value     { return api.Value{Kind: api.KRef, Id: n} }
func str(s string) api.Key    { return api.Key{Str: s} }
func sym(n int) api.Key       { return api.Key{Sym: n} }
func at(n int) api.Key        { return str(strconv.Itoa(n)) }

func open(v api.Value) api.Desc {
	return api.Desc{Value: v, Writable: api.Yes, Enumerable: api.Yes, Configurable: api.Yes}
}

var nan, below0, endless = math.NaN(), math.Copysign(0, -1), math.Inf(1)

// tooLong is made once, because it is long.
var tooLong = strings.Repeat("1", api.MaxStr+1)

// names is the six fields, in the order in which they are asked for.
func names() []string {
	return []string{"enumerable", "configurable", "value", "writable", "get", "set"}
}

// plain is values of every kind that are no objects.
func plain() []api.Value {
	return []api.Value{
		undefined(), null(), no(), yes(), num(0), num(below0), num(1), num(-0.5), num(1e300), num(nan), num(endless), num(-endless),
		text(""), text("0"), text("a"), text("false"), text("\xed\xa0\xbd"), text("\U0001f600"), symbol(1), symbol(api.SymSpecies), symbol(65536),
	}
}

// broken is values that are not well formed.
func broken() []api.Value {
	return []api.Value{
		{}, {Kind: 8}, {Kind: -1}, {Num: 1}, {Id: 1}, {Kind: api.KUndefined, Num: 1}, {Kind: api.KNull, Id: 3}, {Kind: api.KNull, Num: below0}, {Kind: api.KBool, Str: "a"}, {Kind: api.KNum, Bool: true},
		{Kind: api.KStr, Id: 1}, {Kind: api.KStr, Str: "\xff"}, {Kind: api.KStr, Str: "\xed\xa0\xbd\xed\xb8\x80"}, {Kind: api.KStr, Str: tooLong},
		{Kind: api.KSym}, {Kind: api.KSym, Id: 65537}, {Kind: api.KSym, Id: 1, Num: 2},
		{Kind: api.KRef}, {Kind: api.KRef, Id: -1}, {Kind: api.KRef, Id: 65537}, {Kind: api.KRef, Id: 1, Str: "a"}, {Kind: api.KRef, Id: 1, Bool: true},
	}
}

// strangers is objects that a heap of at most 20 has not.
func strangers() []api.Value { return []api.Value{ref(21), ref(300), ref(65536)} }

func brokenKeys() []api.Key {
	return []api.Key{str("\xff"), str("\xed\xa0\xbd\xed\xb8\x80"), str(tooLong), {Str: "a", Sym: 1}, sym(-1), sym(65537), sym(math.MinInt)}
}

// brokenDescs is descriptors that are not well formed; the objects in them are 1, and strangers.
func brokenDescs() []api.Desc {
	l := []api.Desc{
		{Value: num(1), Get: ref(1)}, {Value: num(1), Set: undefined()}, {Writable: api.No, Get: undefined()}, {Writable: api.Yes, Set: ref(1)}, {Value: undefined(), Writable: api.Yes, Get: undefined(), Set: undefined()},
		{Value: ref(300), Get: undefined()}, {Get: ref(300), Writable: api.Yes},
		{Writable: 3}, {Writable: -1}, {Enumerable: 3}, {Enumerable: -1}, {Configurable: 3}, {Configurable: math.MinInt}, {Value: ref(300), Configurable: 3},
		{Get: null()}, {Get: no()}, {Get: num(1)}, {Get: text("f")}, {Get: symbol(1)}, {Set: null()}, {Set: yes()}, {Set: num(0)}, {Set: text("")}, {Set: symbol(2)}, {Get: ref(300), Set: num(1)},
	}
	for _, v := range broken()[1:] {
		l = append(l, api.Desc{Value: v}, api.Desc{Get: v}, api.Desc{Set: v}, api.Desc{Value: v, Writable: api.Yes, Enumerable: api.No, Configurable: api.Yes})
	}
	return l
}

func newHeap(t *testing.T, capacity, fuel, depth int) *heap.Heap {
	t.Helper()
	h, e := heap.New(capacity, fuel, depth)
	if e != api.OK {
		t.Fatal(e)
	}
	return h
}

func made(t *testing.T, h *heap.Heap, proto api.Value) int {
	t.Helper()
	n, err := h.Make(proto)
	if err != nil {
		t.Fatal(err)
	}
	return n
}

// fn is a function of operations; giving is one that answers a value, having spent 3.
func fn(t *testing.T, h *heap.Heap, body ...api.Op) api.Value {
	t.Helper()
	n, err := call.New(h, null(), body, false)
	if err != nil {
		t.Fatal(err)
	}
	return ref(n)
}

func giving(t *testing.T, h *heap.Heap, v api.Value) api.Value {
	t.Helper()
	return fn(t, h, api.Op{Code: api.OConst, Val: v}, api.Op{Code: api.OReturn})
}

// class is a function that is a constructor, and does nothing.
func class(t *testing.T, h *heap.Heap) api.Value {
	t.Helper()
	n, err := call.New(h, null(), nil, true)
	if err != nil {
		t.Fatal(err)
	}
	return ref(n)
}

// lay puts a property there, at no cost, whatever the object's own methods are.
func lay(t *testing.T, h *heap.Heap, o int, k api.Key, d api.Desc) {
	t.Helper()
	if ok, err := (heap.Ordinary{}).DefineOwnProperty(h, o, k, d); !ok || err != nil {
		t.Fatalf("lay %d %v %v: %v, %v", o, k, d, ok, err)
	}
}

func shut(h *heap.Heap, o int) { heap.Ordinary{}.PreventExtensions(h, o) }

// diary is what was entered, in order: seers write down each method that this layer may enter, natives each Call. All of these cost a unit.
type diary struct {
	lines []string
	meet  func(n int, line string) error // what happens at the line with that number, ahead of anything else
}

func (d *diary) write(words ...string) error {
	d.lines = append(d.lines, strings.Join(words, " "))
	if d.meet == nil {
		return nil
	}
	return d.meet(len(d.lines)-1, d.lines[len(d.lines)-1])
}

func tell(v api.Value) string {
	s, e := value.Text(v)
	if e != api.OK {
		return e.Error()
	}
	return s
}

func name(k api.Key) string {
	if k.Sym != 0 {
		return "@" + strconv.Itoa(k.Sym)
	}
	return k.Str
}

// seer is the methods of an ordinary object that writes down who asks it.
type seer struct{ heap.Ordinary }

func (seer) write(h *heap.Heap, o int, what string, k api.Key, words ...string) error {
	return h.Own(o).(*diary).write(append([]string{what, "#" + strconv.Itoa(o), name(k)}, words...)...)
}

func (m seer) HasProperty(h *heap.Heap, o int, k api.Key) (bool, error) {
	if err := m.write(h, o, "has", k); err != nil {
		return false, err
	}
	return m.Ordinary.HasProperty(h, o, k)
}

func (m seer) Get(h *heap.Heap, o int, k api.Key, receiver api.Value) (api.Value, error) {
	if err := m.write(h, o, "get", k, tell(receiver)); err != nil {
		return api.Value{}, err
	}
	return m.Ordinary.Get(h, o, k, receiver)
}

func (m seer) Set(h *heap.Heap, o int, k api.Key, v, receiver api.Value) (bool, error) {
	if err := m.write(h, o, "set", k, tell(v), tell(receiver)); err != nil {
		return false, err
	}
	return m.Ordinary.Set(h, o, k, v, receiver)
}

func (m seer) GetOwnProperty(h *heap.Heap, o int, k api.Key) (api.Desc, bool, error) {
	return m.Ordinary.GetOwnProperty(h, o, k) // it is asked without being entered, too: nothing is written
}

func (m seer) DefineOwnProperty(h *heap.Heap, o int, k api.Key, d api.Desc) (bool, error) {
	if err := m.write(h, o, "define", k, tellDesc(d)); err != nil {
		return false, err
	}
	return m.Ordinary.DefineOwnProperty(h, o, k, d)
}

func (m seer) Delete(h *heap.Heap, o int, k api.Key) (bool, error) {
	if err := m.write(h, o, "delete", k); err != nil {
		return false, err
	}
	return m.Ordinary.Delete(h, o, k)
}

func tellDesc(d api.Desc) string {
	return fmt.Sprint(d.Writable, d.Enumerable, d.Configurable) + fmt.Sprint(d.Value, d.Get, d.Set)
}

func addSeer(t *testing.T, h *heap.Heap, d *diary, proto api.Value) int {
	t.Helper()
	n, err := h.Add(api.COrdinary, proto, seer{}, d)
	if err != nil {
		t.Fatal(err)
	}
	return n
}

// native is a function that is a function of Go: a call of it costs one unit.
type native struct{ heap.Ordinary }

type does func(this api.Value, args []api.Value) (api.Value, error)

func (native) Call(h *heap.Heap, f int, this api.Value, args []api.Value) (api.Value, error) {
	return h.Own(f).(does)(this, args)
}

func addNative(t *testing.T, h *heap.Heap, d does) api.Value {
	t.Helper()
	n, err := h.Add(api.CNative, null(), native{}, d)
	if err != nil {
		t.Fatal(err)
	}
	return ref(n)
}

// ending is a native that writes its name down, with its receiver and arguments, and ends so.
func ending(t *testing.T, h *heap.Heap, d *diary, name string, v api.Value, err error) api.Value {
	t.Helper()
	return addNative(t, h, func(this api.Value, args []api.Value) (api.Value, error) {
		words := []string{"call", name, tell(this)}
		for _, a := range args {
			words = append(words, tell(a))
		}
		if wrong := d.write(words...); wrong != nil {
			return api.Value{}, wrong
		}
		return v, err
	})
}

func sameValue(a, b api.Value) bool {
	x, y := a.Num, b.Num
	a.Num, b.Num = 0, 0
	return a == b && (x != x && y != y || x == y && math.Signbit(x) == math.Signbit(y))
}

func sameDesc(a, b api.Desc) bool {
	return sameValue(a.Value, b.Value) && sameValue(a.Get, b.Get) && sameValue(a.Set, b.Set) && a.Writable == b.Writable && a.Enumerable == b.Enumerable && a.Configurable == b.Configurable
}

func sameShape(a, b api.Shape) bool {
	same := func(p, q api.Prop) bool { return p.Key == q.Key && sameDesc(p.Desc, q.Desc) }
	return a.Class == b.Class && a.Proto == b.Proto && a.Extensible == b.Extensible && slices.EqualFunc(a.Props, b.Props, same)
}

func sameShapes(a, b []api.Shape) bool { return slices.EqualFunc(a, b, sameShape) }

// sameError tells whether two errors are both none, the same number, or throws of the same.
func sameError(a, b error) bool {
	var x, y *api.Thrown
	if errors.As(a, &x) && errors.As(b, &y) {
		return x.Kind == y.Kind && sameValue(x.Value, y.Value)
	}
	return a == b
}

func typeError() error         { return &api.Thrown{Kind: api.XType} }
func rangeError() error        { return &api.Thrown{Kind: api.XRange} }
func thrown(v api.Value) error { return &api.Thrown{Kind: api.XValue, Value: v} }

// ends is errors of every sort, as programs may end by them.
func ends() []error {
	return []error{thrown(num(9)), thrown(ref(1)), typeError(), rangeError(), api.ErrFuel, api.ErrDepth, api.ErrFull}
}

// act is a call of the package, with what it is given.
type act struct {
	name  string
	o     int // of Create, Put, Remove, Species
	v     api.Value
	k     api.Key
	d     api.Desc
	proto api.Value
	args  []api.Value
}

// told is an answer as a text: nothing, beside an error; that is all there may be.
func told[T any](x T, err error) (string, error) {
	v := reflect.ValueOf(x)
	zero := v.IsZero() || v.Kind() == reflect.Slice && v.Len() == 0
	switch {
	case err == nil:
		return fmt.Sprint(x), nil
	case !zero:
		return "stray " + fmt.Sprint(x), err
	}
	return "", err
}

// played is an act by the package.
func (x act) played(h *heap.Heap) (string, error) {
	switch x.name {
	case "From":
		return told(records.From(h, x.d, x.proto))
	case "To":
		return told(records.To(h, x.v))
	case "Length":
		return told(records.Length(h, x.v))
	case "List":
		return told(records.List(h, x.v))
	case "Keys":
		return told(records.Keys(h, x.v))
	case "Invoke":
		return told(records.Invoke(h, x.v, x.k, x.args))
	case "Create":
		return told(0, records.Create(h, x.o, x.k, x.v))
	case "Put":
		return told(0, records.Put(h, x.o, x.k, x.v))
	case "Remove":
		return told(0, records.Remove(h, x.o, x.k))
	case "Species":
		return told(records.Species(h, x.o, x.v))
	}
	panic(x.name)
}

// all is the names of all acts.
func all() []string {
	return []string{"From", "To", "Length", "List", "Keys", "Invoke", "Create", "Put", "Remove", "Species"}
}

// is holds what an act comes to, and what it spends, against what these must be. An error has no answer beside it.
func (x act) is(t *testing.T, h *heap.Heap, cost int, want any, wrong error) {
	t.Helper()
	answer := fmt.Sprint(want)
	if wrong != nil {
		answer = ""
	}
	was := h.Fuel()
	got, err := x.played(h)
	if got != answer || !sameError(err, wrong) || was-h.Fuel() != cost {
		t.Errorf("%s: %s, %v, %d spent; want %s, %v, %d spent", x.name, got, err, was-h.Fuel(), answer, wrong, cost)
	}
}

// Acts of an object by its number, and of a descriptor.
func to(o int) act                { return act{name: "To", v: ref(o)} }
func lengthOf(o int) act          { return act{name: "Length", v: ref(o)} }
func list(o int) act              { return act{name: "List", v: ref(o)} }
func keys(o int) act              { return act{name: "Keys", v: ref(o)} }
func remove(o int, k api.Key) act { return act{name: "Remove", o: o, k: k} }

func from(d api.Desc, proto api.Value) act { return act{name: "From", d: d, proto: proto} }

func invoke(o int, k api.Key, args ...api.Value) act {
	return act{name: "Invoke", v: ref(o), k: k, args: args}
}

func create(o int, k api.Key, v api.Value) act { return act{name: "Create", o: o, k: k, v: v} }
func put(o int, k api.Key, v api.Value) act    { return act{name: "Put", o: o, k: k, v: v} }
func species(o int, def api.Value) act         { return act{name: "Species", o: o, v: def} }
