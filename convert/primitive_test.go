package convert_test

// 12.3: objects become values that are none: by each hint, who is asked, in which order, and what it costs.

import (
	"slices"
	"testing"

	"cameo/api"
	"cameo/convert"
	"cameo/heap"
)

func hints() []int { return []int{api.HintDefault, api.HintString, api.HintNumber} }

// wordOf is what a method is told of a hint, in a diary.
func wordOf(hint int) string { return []string{`"default"`, `"string"`, `"number"`}[hint] }

func TestPrimitiveOfNoObject(t *testing.T) {
	h := newHeap(t, 0, 9, 1)
	for _, v := range plain() {
		for _, hint := range hints() {
			primitiveAct(hint).is(t, h, 0, v, nil, v, null())
		}
	}
}

// part is what an object has under one of the three keys: nothing, what is no function, or a function that ends so.
type part struct {
	name     string
	there    bool
	callable bool
	desc     func(h *heap.Heap, d *diary, key string) api.Desc
	answer   api.Value
	err      error
}

func lies(name string, v api.Value) part {
	return part{name: name, there: true, desc: func(*heap.Heap, *diary, string) api.Desc { return open(v) }}
}

func ends(t *testing.T, name string, answer api.Value, err error) part {
	return part{name, true, true, func(h *heap.Heap, d *diary, key string) api.Desc {
		return open(ending(t, h, d, key, answer, err))
	}, answer, err}
}

// parts is all of these; object 1 is the one that has them, 2 another one, which cannot be called.
func parts(t *testing.T) []part {
	l := []part{{name: "nothing"}}
	l = append(l, lies("undefined", undefined()), lies("null", null()), lies("a number", num(1)), lies("a word", text("valueOf")), lies("an object", ref(2)))
	for _, v := range []api.Value{undefined(), null(), yes(), num(below0), num(nan), text("a"), symbol(3)} {
		l = append(l, ends(t, "answers "+tell(v), v, nil))
	}
	for _, v := range []api.Value{ref(1), ref(2)} {
		l = append(l, ends(t, "answers "+tell(v), v, nil))
	}
	for _, err := range []error{thrown(num(9)), thrown(ref(1)), typeError(), rangeError(), api.ErrFuel, api.ErrDepth, api.ErrFull} {
		l = append(l, ends(t, "ends by "+err.Error(), api.Value{}, err))
	}
	return l
}

// trio is an object with such parts.
type trio struct{ exotic, str, val part }

func (x trio) String() string { return x.exotic.name + "; " + x.str.name + "; " + x.val.name }

// build is a heap with the object 1, and what is written down there.
func (x trio) build(t *testing.T) (*heap.Heap, *diary) {
	t.Helper()
	h, d := newHeap(t, 5, 100, 1), &diary{}
	o := addSeer(t, h, d)
	made(t, h, null())
	for k, p := range map[api.Key]part{toPrimitive: x.exotic, toString: x.str, valueOf: x.val} {
		if !p.there {
			continue
		}
		name := k.Str
		if k.Sym != 0 {
			name = "exotic"
		}
		lay(t, h, o, k, p.desc(h, d, name))
	}
	return h, d
}

// want is what must be entered, and what must come of it.
func (x trio) want(hint int) ([]string, api.Value, error) {
	lines := []string{"#1 @11 #1"}
	ends := func(p part, line string) bool {
		if p.callable {
			lines = append(lines, line)
		}
		return p.err != nil || p.callable && p.answer.Kind != api.KRef
	}
	none := !x.exotic.there || x.exotic.name == "undefined" || x.exotic.name == "null"
	if ends(x.exotic, "exotic #1 "+wordOf(hint)) {
		return lines, x.exotic.answer, x.exotic.err
	}
	if !none {
		return lines, api.Value{}, typeError()
	}
	asked := []string{"valueOf", "toString"}
	if hint == api.HintString {
		slices.Reverse(asked)
	}
	for _, s := range asked {
		p := map[string]part{"valueOf": x.val, "toString": x.str}[s]
		lines = append(lines, "#1 "+s+" #1")
		if ends(p, s+" #1") {
			return lines, p.answer, p.err
		}
	}
	return lines, api.Value{}, typeError()
}

// holds looks at an object by a hint, with all the fuel that it needs, and with less.
func (x trio) holds(t *testing.T, hint int) {
	t.Helper()
	lines, want, wrong := x.want(hint)
	for fuel := range len(lines) + 2 {
		h, d := x.build(t)
		h.Refuel(fuel)
		before := h.Shapes()
		v, err := convert.Primitive(h, ref(1), hint)
		seen, left := want, max(fuel-len(lines), 0)
		ended := wrong
		if fuel < len(lines) {
			seen, ended = api.Value{}, api.ErrFuel
		}
		if !sameValue(v, seen) || !sameError(err, ended) || h.Fuel() != left || !slices.Equal(d.lines, lines[:min(fuel, len(lines))]) {
			t.Fatalf("12.3: %v by %d, with fuel %d: %v, %v, %d left, %v; want %v, %v, %v", x, hint, fuel, v, err, h.Fuel(), d.lines, seen, ended, lines)
		}
		if !sameShapes(h.Shapes(), before) {
			t.Fatalf("12.3: %v by %d changed: %v", x, hint, h.Shapes())
		}
	}
}

// 12.3: a method of SymToPrimitive, of each kind.
func TestExotic(t *testing.T) {
	good := ends(t, "answers x", text("x"), nil)
	for _, p := range parts(t) {
		for _, hint := range hints() {
			trio{p, good, good}.holds(t, hint)
			trio{p, part{name: "nothing"}, part{name: "nothing"}}.holds(t, hint)
		}
	}
}

// 12.3: toString and valueOf, of each kind both.
func TestNames(t *testing.T) {
	for _, s := range parts(t) {
		for _, v := range parts(t) {
			for _, hint := range hints() {
				trio{part{name: "nothing"}, s, v}.holds(t, hint)
			}
		}
	}
	for _, none := range []part{lies("undefined", undefined()), lies("null", null())} {
		for _, p := range parts(t) {
			for _, hint := range hints() {
				trio{none, p, parts(t)[0]}.holds(t, hint)
				trio{none, parts(t)[0], p}.holds(t, hint)
			}
		}
	}
}

// 12.3: what comes from prototypes and getters, which are given the object itself as the receiver, and cost what they cost.
func TestInheritedAndGot(t *testing.T) {
	h := newHeap(t, 20, 1000, 9)
	base := made(t, h, null())
	heir := made(t, h, ref(base))
	last := made(t, h, ref(heir))
	this := fn(t, h, api.Op{Code: api.OThis}, api.Op{Code: api.OGet, To: 1, Key: str("name")}, api.Op{Code: api.OReturn, A: 1})
	lay(t, h, base, valueOf, open(this))
	lay(t, h, base, str("name"), open(text("base")))
	lay(t, h, last, str("name"), open(text("last")))
	// The symbol of 1 and its prototypes, valueOf likewise, Call, three operations, name.
	primitiveAct(api.HintNumber).is(t, h, 1+1+1+3+1, text("base"), nil, ref(base), null())
	primitiveAct(api.HintNumber).is(t, h, 2+2+1+3+2, text("base"), nil, ref(heir), null())
	primitiveAct(api.HintDefault).is(t, h, 3+3+1+3+1, text("last"), nil, ref(last), null())
	primitiveAct(api.HintString).is(t, h, 3+3+3+1+3+1, text("last"), nil, ref(last), null())
	// A getter tells the method: a call, two operations.
	lay(t, h, heir, toString, api.Desc{Get: giving(t, h, giving(t, h, symbol(5))), Configurable: api.Yes})
	primitiveAct(api.HintString).is(t, h, 3+2+3+3, symbol(5), nil, ref(last), null())
	lay(t, h, heir, toString, api.Desc{Get: fn(t, h, api.Op{Code: api.OThis}, api.Op{Code: api.OReturn})})
	primitiveAct(api.HintString).is(t, h, 3+2+3+3+1+3+1, text("last"), nil, ref(last), null())
	echo := fn(t, h, api.Op{Code: api.OArg}, api.Op{Code: api.OReturn})
	lay(t, h, base, toPrimitive, open(echo))
	for hint, s := range []string{"default", "string", "number"} {
		primitiveAct(hint).is(t, h, 3+3, text(s), nil, ref(last), null())
	}
	more := fn(t, h, api.Op{Code: api.OArg, A: 1}, api.Op{Code: api.OReturn})
	lay(t, h, heir, toPrimitive, open(more))
	primitiveAct(api.HintNumber).is(t, h, 2+3, undefined(), nil, ref(last), null())
}

// 12.3: toString and valueOf are given no arguments, also no undefined one.
func TestNoArguments(t *testing.T) {
	h := newHeap(t, 5, 100, 2)
	o := made(t, h, null())
	n := addNative(t, h, func(this api.Value, args []api.Value) (api.Value, error) {
		if this != ref(o) || len(args) != 0 {
			t.Errorf("12.3: %v, %v", this, args)
		}
		return this, nil
	})
	lay(t, h, o, toString, open(n))
	lay(t, h, o, valueOf, open(n))
	for _, hint := range hints() {
		primitiveAct(hint).is(t, h, 5, api.Value{}, typeError(), ref(o), null())
	}
}

// 12.3: what runs may change what is asked next; what was asked already is not asked again.
func TestChangedInTheMidst(t *testing.T) {
	h := newHeap(t, 20, 1000, 9)
	o := made(t, h, null())
	five := giving(t, h, num(5))
	lays := func(k api.Key, v api.Value) api.Value {
		return fn(t, h, api.Op{Code: api.OThis}, api.Op{Code: api.OConst, To: 1, Val: v}, api.Op{Code: api.OSet, To: 2, A: 0, B: 1, Key: k}, api.Op{Code: api.OReturn})
	}
	drops := func(k api.Key) api.Value {
		return fn(t, h, api.Op{Code: api.OThis}, api.Op{Code: api.ODelete, To: 2, A: 0, Key: k}, api.Op{Code: api.OReturn})
	}
	lay(t, h, o, valueOf, open(lays(toString, five)))
	primitiveAct(api.HintNumber).is(t, h, 1+1+(1+4+3)+1+3, num(5), nil, ref(o), null())
	primitiveAct(api.HintString).is(t, h, 1+1+3, num(5), nil, ref(o), null())
	lay(t, h, o, valueOf, open(drops(toString)))
	primitiveAct(api.HintNumber).is(t, h, 1+1+(1+3+1)+1, api.Value{}, typeError(), ref(o), null())
	lay(t, h, o, toString, open(lays(toPrimitive, five)))
	primitiveAct(api.HintString).is(t, h, 1+1+(1+4+3)+1+(1+3+1), api.Value{}, typeError(), ref(o), null())
	primitiveAct(api.HintString).is(t, h, 1+3, num(5), nil, ref(o), null())
}

// 12.3: a conversion is no method that is entered: it is not one deeper, from outside and within a function.
func TestDepth(t *testing.T) {
	for depth := 1; depth <= 4; depth++ {
		h := newHeap(t, 9, 1000, depth)
		o := made(t, h, null())
		lay(t, h, o, valueOf, open(giving(t, h, num(5))))
		primitiveAct(api.HintNumber).is(t, h, 1+1+3, num(5), nil, ref(o), null())
		within := addNative(t, h, func(api.Value, []api.Value) (api.Value, error) { return convert.Primitive(h, ref(o), api.HintNumber) })
		was := h.Fuel()
		v, err := h.Call(within.Id, null(), nil)
		if depth == 1 && (v != (api.Value{}) || err != api.ErrDepth || was-h.Fuel() != 2) {
			t.Errorf("12.3: %v, %v, %d spent", v, err, was-h.Fuel())
		}
		if depth > 1 && (v != num(5) || err != nil || was-h.Fuel() != 6) {
			t.Errorf("12.3: with depth %d: %v, %v, %d spent", depth, v, err, was-h.Fuel())
		}
	}
	h := newHeap(t, 2, 1000, 3)
	o := made(t, h, null())
	lay(t, h, o, valueOf, open(addNative(t, h, func(this api.Value, _ []api.Value) (api.Value, error) {
		return convert.Primitive(h, this, api.HintNumber)
	})))
	// Three calls within one another: what they ask for next is too deep.
	primitiveAct(api.HintNumber).is(t, h, 3*3+1, api.Value{}, api.ErrDepth, ref(o), null())
	h.Refuel(7)
	primitiveAct(api.HintNumber).is(t, h, 7, api.Value{}, api.ErrFuel, ref(o), null())
}

// 12.3: functions are objects, too.
func TestPrimitiveOfFunctions(t *testing.T) {
	h := newHeap(t, 3, 100, 5)
	f, five := giving(t, h, num(1)), giving(t, h, num(5))
	primitiveAct(api.HintNumber).is(t, h, 3, api.Value{}, typeError(), f, null())
	lay(t, h, f.Id, valueOf, open(five))
	primitiveAct(api.HintNumber).is(t, h, 5, num(5), nil, f, null())
}
