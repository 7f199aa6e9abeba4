package call_test

// 11.3: each code of an operation: what it answers, what it throws, what it costs, and what it changes.

import (
	"math"
	"slices"
	"testing"

	"cameo/api"
	"cameo/heap"
)

// The objects of the stage.
const (
	base    = 1  // a: 5, open; r: 6, fixed
	child   = 2  // of base, without properties of its own
	shut    = 3  // of base, not extensible; x: 1, open
	echo    = 4  // a function that answers its argument, having spent 3
	maker   = 5  // a constructor without operations, which spends 2
	thrower = 6  // a function that throws 9, having spent 3
	mirror  = 7  // a function that answers its receiver, having spent 3
	active  = 8  // g: got by mirror; t: got and set by thrower; u: neither got nor set
	played  = 9  // the function that is looked at
	fresh   = 10 // the last one for which there is room
)

func stage(t *testing.T) *heap.Heap {
	t.Helper()
	h := newHeap(t, 10, 1000, 9)
	made(t, h, null())
	made(t, h, ref(base))
	made(t, h, ref(base))
	fn(t, h, op(api.OArg), give(0))
	ctor(t, h)
	fn(t, h, constant(0, num(9)), throw(0))
	fn(t, h, op(api.OThis), give(0))
	made(t, h, null())
	lay(t, h, base, str("a"), open(num(5)))
	lay(t, h, base, str("r"), api.Desc{Value: num(6)})
	lay(t, h, shut, str("x"), open(num(1)))
	h.PreventExtensions(shut)
	lay(t, h, active, str("g"), api.Desc{Get: ref(mirror)})
	lay(t, h, active, str("t"), api.Desc{Get: ref(thrower), Set: ref(thrower)})
	lay(t, h, active, str("u"), api.Desc{Get: undefined()})
	return h
}

// row is an operation over registers with these values, from 0 on: what To becomes, or what is thrown; and what is spent beside the operation's own unit.
type row struct {
	regs  []api.Value
	op    api.Op
	want  api.Value
	wrong error
	cost  int
}

func regs(l ...api.Value) []api.Value { return l }

// play calls, with so much fuel, a function that sets the registers, does the operation and answers its To; what comes of it, and what is left.
func (r row) play(t *testing.T, catch bool, fuel int) (api.Value, error, int) {
	t.Helper()
	h := stage(t)
	var body []api.Op
	for i, v := range r.regs {
		body = append(body, constant(i, v))
	}
	o := r.op
	o.To, o.Catch = 15, catch
	f := fn(t, h, append(body, o, give(15))...)
	h.Refuel(fuel)
	v, err := h.Call(f, text("this"), regs(num(10), num(11)))
	return v, err, h.Fuel()
}

func (r row) holds(t *testing.T) {
	t.Helper()
	spent := 1 + len(r.regs) + 1 + r.cost // Call, the registers, the operation
	want, wrong, cost := r.want, r.wrong, spent
	if wrong == nil {
		cost++ // OReturn
	}
	if v, err, left := r.play(t, false, 1000); v != want || !sameError(err, wrong) || 1000-left != cost {
		t.Errorf("11.3: %v: %v, %v, %d spent, want %d", r, v, err, 1000-left, cost)
	}
	for fuel := range cost + 3 {
		v, err, left := r.play(t, false, fuel)
		if fuel < cost && (v != api.Value{} || err != api.ErrFuel || left != 0) {
			t.Errorf("11.3: %v with fuel %d: %v, %v, %d left", r, fuel, v, err, left)
		}
		if fuel >= cost && (v != want || !sameError(err, wrong) || left != fuel-cost) {
			t.Errorf("11.5: %v with fuel %d: %v, %v, %d left", r, fuel, v, err, left)
		}
	}
	if _, stops := wrong.(api.Errno); stops {
		if v, err, left := r.play(t, true, 1000); v != want || err != wrong || 1000-left != cost {
			t.Errorf("11.3: %v, caught: %v, %v, %d spent", r, v, err, 1000-left)
		}
		return
	}
	switch x := asThrown(wrong); {
	case x != nil && x.Kind == api.XValue:
		want = x.Value
	case x != nil:
		want = text(x.Error())
	}
	if v, err, left := r.play(t, true, 1000); v != want || err != nil || 1000-left != spent+1 {
		t.Errorf("11.3: %v, caught: %v, %v, %d spent, want %d", r, v, err, 1000-left, spent+1)
	}
}

// noObjects is values that have no internal methods.
func noObjects() []api.Value {
	return []api.Value{undefined(), null(), yes(), no(), num(1), text("x"), text(""), symbol(1)}
}

// 11.3: OConst, OMove, OThis, OArg, OTarget, OSelf.
func TestOwnThings(t *testing.T) {
	for _, v := range append(noObjects(), ref(1), ref(8), num(math.Copysign(0, -1)), symbol(65536)) {
		row{op: constant(0, v), want: v}.holds(t)
		row{regs: regs(v), op: op(api.OMove), want: v}.holds(t)
		row{regs: regs(num(1), num(2), v), op: op(api.OMove, 0, 2), want: v}.holds(t)
	}
	for a := range api.MaxRegs - 1 {
		row{op: op(api.OMove, 0, a), want: undefined()}.holds(t)
	}
	row{op: op(api.OMove, 0, 15), want: undefined()}.holds(t)
	row{op: op(api.OThis), want: text("this")}.holds(t)
	row{op: op(api.OArg, 0, 0), want: num(10)}.holds(t)
	row{op: op(api.OArg, 0, 1), want: num(11)}.holds(t)
	for _, n := range []int{2, 3, 15, 16, 1023, 1024, math.MaxInt} {
		row{op: op(api.OArg, 0, n), want: undefined()}.holds(t)
	}
	row{op: op(api.OTarget), want: undefined()}.holds(t)
	row{op: op(api.OSelf), want: ref(played)}.holds(t)
}

// 11.3: OThrow, and OMake, for which there may be no room.
func TestThrowAndMake(t *testing.T) {
	for _, v := range append(noObjects(), ref(3)) {
		row{regs: regs(v), op: throw(0), wrong: thrown(v)}.holds(t)
		if v != null() && v != ref(3) {
			row{regs: regs(v), op: op(api.OMake), wrong: typeError()}.holds(t)
		}
	}
	row{op: throw(7), wrong: thrown(undefined())}.holds(t)
	row{regs: regs(null()), op: op(api.OMake), want: ref(fresh)}.holds(t)
	row{regs: regs(num(1), ref(shut)), op: op(api.OMake, 0, 1), want: ref(fresh)}.holds(t)
	h := stage(t)
	f := fn(t, h, constant(0, ref(base)), op(api.OMake, 1), caught(op(api.OMake, 1)), give(1))
	calls(t, h, "no room", 4, api.Value{}, api.ErrFull, f, null())
	if s, e := h.Shape(fresh); !sameShape(s, api.Shape{Class: api.COrdinary, Proto: ref(base), Extensible: true}) || e != api.OK {
		t.Errorf("11.3: %v, %v", s, e)
	}
}

// 11.3: what all other codes throw of what is no object: the method is not entered.
func TestNoObject(t *testing.T) {
	for code := api.OGet; code <= api.OSetBy; code++ {
		if code == api.OMake {
			continue
		}
		for _, v := range noObjects() {
			row{regs: regs(v, text("a"), num(1)), op: op(code, 0, 0, 1, 2), wrong: typeError()}.holds(t)
		}
		row{op: op(code, 0, 14, 15, 15), wrong: typeError()}.holds(t)
	}
}

// 11.3: OGet and OGetBy, which must be one but for where the key comes from.
func TestGet(t *testing.T) {
	for _, x := range []struct {
		o     int
		k     string
		want  api.Value
		wrong error
		cost  int
	}{
		{base, "a", num(5), nil, 1}, {base, "r", num(6), nil, 1}, {base, "b", undefined(), nil, 1}, {child, "a", num(5), nil, 2}, {child, "b", undefined(), nil, 2},
		{active, "g", ref(active), nil, 4}, {active, "u", undefined(), nil, 1}, {active, "t", api.Value{}, thrown(num(9)), 4}, {echo, "a", undefined(), nil, 1},
	} {
		row{regs(ref(x.o)), at(str(x.k), op(api.OGet)), x.want, x.wrong, x.cost}.holds(t)
		row{regs(num(1), ref(x.o), text(x.k)), op(api.OGetBy, 0, 1, 2), x.want, x.wrong, x.cost}.holds(t)
	}
	for _, v := range []api.Value{ref(base), ref(echo)} {
		row{regs: regs(ref(base), v), op: op(api.OGetBy, 0, 0, 1), wrong: typeError()}.holds(t)
		row{regs: regs(ref(base), v), op: op(api.OSetBy, 0, 0, 1, 1), wrong: typeError()}.holds(t)
	}
}

// keys is values that are no objects, and the keys that they are.
func keys() map[api.Value]api.Key {
	return map[api.Value]api.Key{
		undefined(): str("undefined"), null(): str("null"), yes(): str("true"), no(): str("false"), num(7): str("7"), num(-1.5): str("-1.5"), num(0): str("0"),
		num(1e21): str("1e+21"), text(""): str(""), text("7"): str("7"), text("\xed\xa0\xbd"): str("\xed\xa0\xbd"), symbol(1): sym(1), symbol(65536): sym(65536),
	}
}

// 11.3: OGetBy and OSetBy take any value that is no object as a key.
func TestKeysOfValues(t *testing.T) {
	set := []api.Op{op(api.OThis, 0), op(api.OArg, 1, 0), op(api.OArg, 2, 1), op(api.OSetBy, 3, 0, 1, 2), give(3)}
	get := []api.Op{op(api.OThis, 0), op(api.OArg, 1, 0), op(api.OGetBy, 2, 0, 1), give(2)}
	for v, k := range keys() {
		h := newHeap(t, 3, 100, 9)
		o, setter, getter := made(t, h, null()), fn(t, h, set...), fn(t, h, get...)
		calls(t, h, "11.3: OSetBy", 1+5+3, yes(), nil, setter, ref(o), v, num(4))
		if s, _ := h.Shape(o); len(s.Props) != 1 || s.Props[0] != (api.Prop{Key: k, Desc: open(num(4))}) {
			t.Errorf("11.3: %v: %v", v, s)
		}
		calls(t, h, "11.3: OGetBy", 1+4+1, num(4), nil, getter, ref(o), v)
	}
	h := newHeap(t, 2, 100, 9)
	o, f := made(t, h, null()), fn(t, h, set...)
	for _, x := range []float64{math.NaN(), math.Copysign(0, -1)} {
		calls(t, h, "11.3: OSetBy", 1+5+3, yes(), nil, f, ref(o), num(x), num(4))
	}
	if l, _ := h.OwnPropertyKeys(o); !slices.Equal(l, []api.Key{str("0"), str("NaN")}) {
		t.Errorf("11.3: %v", l)
	}
}

// 11.3: OSet and OSetBy, which must be one but for where the key comes from.
func TestSet(t *testing.T) {
	for _, x := range []struct {
		o     int
		k     string
		want  api.Value
		wrong error
		cost  int
	}{
		{base, "a", yes(), nil, 3}, {base, "r", no(), nil, 1}, {base, "b", yes(), nil, 3}, {child, "a", yes(), nil, 4}, {child, "r", no(), nil, 2},
		{shut, "x", yes(), nil, 3}, {shut, "a", no(), nil, 4}, {active, "u", no(), nil, 1}, {active, "g", no(), nil, 1}, {active, "t", api.Value{}, thrown(num(9)), 4},
	} {
		row{regs(ref(x.o), num(4)), at(str(x.k), op(api.OSet, 0, 0, 1)), x.want, x.wrong, x.cost}.holds(t)
		row{regs(ref(x.o), text(x.k), num(4)), op(api.OSetBy, 0, 0, 1, 2), x.want, x.wrong, x.cost}.holds(t)
	}
}

// 11.3: ODefine, with its own Value, or that of B.
func TestDefine(t *testing.T) {
	define := func(k string, d api.Desc, flag bool) api.Op {
		return api.Op{Code: api.ODefine, B: 1, Key: str(k), Desc: d, Flag: flag}
	}
	for _, flag := range []bool{false, true} {
		row{regs(ref(base), num(4)), define("a", api.Desc{}, flag), yes(), nil, 1}.holds(t)
		row{regs(ref(base), num(4)), define("b", api.Desc{Value: num(3)}, flag), yes(), nil, 1}.holds(t)
		row{regs(ref(base), num(4)), define("r", api.Desc{Writable: api.Yes}, flag), no(), nil, 1}.holds(t)
		row{regs(ref(shut), num(4)), define("b", api.Desc{}, flag), no(), nil, 1}.holds(t)
	}
	row{regs(ref(base), num(6)), define("r", api.Desc{Value: num(5)}, true), yes(), nil, 1}.holds(t)
	row{regs(ref(base), num(6)), define("r", api.Desc{Value: num(5)}, false), no(), nil, 1}.holds(t)
	row{regs(ref(child), num(6)), define("r", api.Desc{Get: ref(echo), Set: undefined()}, false), yes(), nil, 1}.holds(t)
	row{regs(ref(active), num(6)), define("g", api.Desc{Get: ref(mirror)}, false), yes(), nil, 1}.holds(t)
	row{regs(ref(active), num(6)), define("g", api.Desc{Get: ref(echo)}, false), no(), nil, 1}.holds(t)
}

// 11.3: ODelete, OHas, OOwn, OExt, OPrevent, OProto, OReproto.
func TestAsking(t *testing.T) {
	ask := func(code, o int, k string, want api.Value, cost int) {
		t.Helper()
		row{regs(num(1), ref(o)), at(str(k), op(code, 0, 1)), want, nil, cost}.holds(t)
	}
	ask(api.ODelete, base, "a", yes(), 1)
	ask(api.ODelete, base, "b", yes(), 1)
	ask(api.ODelete, base, "r", no(), 1)
	ask(api.ODelete, child, "r", yes(), 1)
	ask(api.OHas, base, "a", yes(), 1)
	ask(api.OHas, child, "a", yes(), 2)
	ask(api.OHas, child, "b", no(), 2)
	ask(api.OHas, active, "t", yes(), 1)
	ask(api.OOwn, base, "a", yes(), 1)
	ask(api.OOwn, child, "a", no(), 1)
	ask(api.OOwn, active, "t", yes(), 1)
	ask(api.OExt, base, "", yes(), 1)
	ask(api.OExt, shut, "", no(), 1)
	ask(api.OPrevent, base, "", yes(), 1)
	ask(api.OPrevent, shut, "", yes(), 1)
	ask(api.OProto, base, "", null(), 1)
	ask(api.OProto, child, "", ref(base), 1)
	reproto := func(o int, v, want api.Value, wrong error, cost int) {
		t.Helper()
		row{regs(v, ref(o)), op(api.OReproto, 0, 1, 0), want, wrong, cost}.holds(t)
	}
	reproto(child, null(), yes(), nil, 1)
	reproto(child, ref(echo), yes(), nil, 1)
	reproto(base, ref(child), no(), nil, 1)
	reproto(shut, null(), no(), nil, 1)
	reproto(shut, ref(base), yes(), nil, 1)
	for _, v := range noObjects() {
		if v != null() {
			reproto(child, v, api.Value{}, typeError(), 0)
		}
	}
}

// 11.3: OCall and ONew.
func TestCalling(t *testing.T) {
	invoke := func(f int, want api.Value, wrong error, cost int) {
		t.Helper()
		row{regs(text("receiver"), text("argument"), ref(f)), op(api.OCall, 0, 2, 0, 1), want, wrong, cost}.holds(t)
	}
	invoke(echo, text("argument"), nil, 3)
	invoke(mirror, text("receiver"), nil, 3)
	invoke(maker, undefined(), nil, 1)
	invoke(thrower, api.Value{}, thrown(num(9)), 3)
	invoke(base, api.Value{}, typeError(), 0)
	build := func(f int, want api.Value, wrong error, cost int) {
		t.Helper()
		row{regs(text("argument"), ref(f)), op(api.ONew, 0, 1, 0), want, wrong, cost}.holds(t)
	}
	build(maker, ref(fresh), nil, 2)
	for _, f := range []int{base, echo, mirror, thrower} {
		build(f, api.Value{}, typeError(), 0)
	}
}

// 11.3: what operations change in the heap, and that those that ask change nothing.
func TestChanges(t *testing.T) {
	shape := func(proto api.Value, ext bool, props ...api.Prop) api.Shape {
		return api.Shape{Class: api.COrdinary, Proto: proto, Extensible: ext, Props: props}
	}
	x := func(d api.Desc) api.Prop { return api.Prop{Key: str("x"), Desc: d} }
	start := shape(null(), true, x(open(num(1))))
	for _, c := range []struct {
		op   api.Op
		want api.Shape
	}{
		{at(str("x"), op(api.OSet, 0, 1, 2)), shape(null(), true, x(open(num(2))))},
		{at(str("y"), op(api.OSet, 0, 1, 2)), shape(null(), true, x(open(num(1))), api.Prop{Key: str("y"), Desc: open(num(2))})},
		{op(api.OSetBy, 0, 1, 2, 3), shape(null(), true, x(open(num(1))), api.Prop{Key: str("2"), Desc: open(text("x"))})},
		{op(api.OSetBy, 0, 1, 3, 2), shape(null(), true, x(open(num(2))))},
		{api.Op{Code: api.ODefine, A: 1, B: 2, Key: str("x"), Desc: api.Desc{Enumerable: api.No}}, shape(null(), true, x(api.Desc{Value: num(1), Writable: 2, Enumerable: 1, Configurable: 2}))},
		{api.Op{Code: api.ODefine, A: 1, B: 2, Key: str("x"), Desc: api.Desc{Writable: api.No}, Flag: true}, shape(null(), true, x(api.Desc{Value: num(2), Writable: 1, Enumerable: 2, Configurable: 2}))},
		{api.Op{Code: api.ODefine, A: 1, B: 2, Key: str("x"), Desc: api.Desc{Value: num(7), Configurable: api.No}, Flag: true}, shape(null(), true, x(api.Desc{Value: num(2), Writable: 2, Enumerable: 2, Configurable: 1}))},
		{api.Op{Code: api.ODefine, A: 1, B: 2, Key: str("x"), Desc: api.Desc{Set: undefined()}}, shape(null(), true, x(api.Desc{Get: undefined(), Set: undefined(), Enumerable: 2, Configurable: 2}))},
		{at(str("x"), op(api.ODelete, 0, 1)), shape(null(), true)},
		{op(api.OPrevent, 0, 1), shape(null(), false, x(open(num(1))))},
		{op(api.OReproto, 0, 1, 4), shape(ref(2), true, x(open(num(1))))},
		{at(str("x"), op(api.OGet, 0, 1)), start}, {op(api.OGetBy, 0, 1, 3), start}, {at(str("x"), op(api.OHas, 0, 1)), start}, {at(str("x"), op(api.OOwn, 0, 1)), start},
		{op(api.OExt, 0, 1), start}, {op(api.OProto, 0, 1), start}, {op(api.OMake, 0, 1), start}, {op(api.OMove, 0, 1), start},
	} {
		h := newHeap(t, 4, 100, 9)
		o := made(t, h, null())
		made(t, h, null())
		lay(t, h, o, str("x"), open(num(1)))
		f := fn(t, h, constant(1, ref(o)), constant(2, num(2)), constant(3, text("x")), constant(4, ref(2)), c.op)
		if v, err := h.Call(f, null(), nil); v != undefined() || err != nil {
			t.Errorf("11.3: %v: %v, %v", c.op, v, err)
		}
		if s, _ := h.Shape(o); !sameShape(s, c.want) {
			t.Errorf("11.3: %v: %v, want %v", c.op, s, c.want)
		}
	}
}
