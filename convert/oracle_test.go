package convert_test

// What the chapter's words say, written down a second time, by other means than the package has: what throws or stops is a panic that the outermost call picks up, what a kind becomes stands in tables, and Loose goes through the chapter's sentences as they stand.

import (
	"math"
	"math/big"
	"slices"

	"cameo/api"
	"cameo/heap"
	"cameo/number"
	"cameo/units"
)

type second struct{ h *heap.Heap }

func must[T any](x T, err error) T {
	if err != nil {
		panic(err)
	}
	return x
}

func (s second) method(v api.Value, k api.Key) api.Value {
	if v.Kind < api.KRef {
		panic(typeError())
	}
	f := must(s.h.Get(v.Id, k, v))
	if f.Kind <= api.KNull {
		return undefined()
	}
	if !s.h.Callable(f) {
		panic(typeError())
	}
	return f
}

func (s second) primitive(v api.Value, hint int) api.Value {
	if v.Kind < api.KRef {
		return v
	}
	if f := s.method(v, api.Key{Sym: api.SymToPrimitive}); f.Id != 0 {
		word := map[int]string{api.HintDefault: "default", api.HintString: "string", api.HintNumber: "number"}[hint]
		if p := must(s.h.Call(f.Id, v, []api.Value{text(word)})); p.Kind < api.KRef {
			return p
		}
		panic(typeError())
	}
	names := map[bool][]string{true: {"toString", "valueOf"}, false: {"valueOf", "toString"}}[hint == api.HintString]
	for len(names) > 0 {
		if f := must(s.h.Get(v.Id, str(names[0]), v)); s.h.Callable(f) {
			if p := must(s.h.Call(f.Id, v, nil)); p.Kind < api.KRef {
				return p
			}
		}
		names = names[1:]
	}
	panic(typeError())
}

func (s second) number(v api.Value) float64 {
	table := map[int]func() float64{
		api.KUndefined: math.NaN,
		api.KNull:      func() float64 { return 0 },
		api.KBool:      func() float64 { return map[bool]float64{true: 1}[v.Bool] },
		api.KNum:       func() float64 { return v.Num },
		api.KStr:       func() float64 { return number.Parse(v.Str) },
		api.KSym:       func() float64 { panic(typeError()) },
		api.KRef:       func() float64 { return s.number(s.primitive(v, api.HintNumber)) },
	}
	return table[v.Kind]()
}

func (s second) str(v api.Value) string {
	table := map[int]func() string{
		api.KUndefined: func() string { return "undefined" },
		api.KNull:      func() string { return "null" },
		api.KBool:      func() string { return map[bool]string{true: "true", false: "false"}[v.Bool] },
		api.KNum:       func() string { return number.Text(v.Num) },
		api.KStr:       func() string { return v.Str },
		api.KSym:       func() string { panic(typeError()) },
		api.KRef:       func() string { return s.str(s.primitive(v, api.HintString)) },
	}
	return table[v.Kind]()
}

func (s second) key(v api.Value) api.Value {
	if p := s.primitive(v, api.HintString); p.Kind == api.KSym {
		return p
	} else {
		return text(s.str(p))
	}
}

// integer is a number without its fraction, and no nought below 0.
func (s second) integer(v api.Value) float64 {
	x := s.number(v)
	if x != x {
		return 0
	}
	return math.Trunc(x) + 0
}

func (s second) index(v api.Value) float64 {
	x := s.integer(v)
	if x < 0 || x >= 1<<53 {
		panic(rangeError())
	}
	return x
}

// modulo is the whole part of a number, modulo 2^32.
func (s second) modulo(v api.Value) uint32 {
	x := s.integer(v)
	if math.IsInf(x, 0) {
		return 0
	}
	n, _ := big.NewFloat(x).Int(nil)
	return uint32(n.Mod(n, big.NewInt(1<<32)).Uint64())
}

func (s second) loose(a, b api.Value) bool {
	kinds := func(x, y int) bool { return a.Kind == x && b.Kind == y }
	either := func(x, y int) bool { return kinds(x, y) || kinds(y, x) }
	simple := func(v api.Value) bool { return v.Kind >= api.KNum && v.Kind <= api.KSym }
	switch {
	case a.Kind == b.Kind:
		return a == b // NaN is not itself, and both noughts are one, for Go, too
	case either(api.KUndefined, api.KNull):
		return true
	case either(api.KNum, api.KStr):
		return s.number(a) == s.number(b)
	case a.Kind == api.KBool:
		return s.loose(num(s.number(a)), b)
	case b.Kind == api.KBool:
		return s.loose(a, num(s.number(b)))
	case a.Kind == api.KRef && simple(b):
		return s.loose(s.primitive(a, api.HintDefault), b)
	case b.Kind == api.KRef && simple(a):
		return s.loose(a, s.primitive(b, api.HintDefault))
	}
	return false
}

func (s second) units(v api.Value) []uint16 {
	l, e := units.Units(v.Str)
	if e != api.OK {
		panic(e)
	}
	return l
}

// less is true, false, or undefined, if there is no order.
func (s second) less(a, b api.Value, left bool) api.Value {
	if left {
		a = s.primitive(a, api.HintNumber)
	}
	b = s.primitive(b, api.HintNumber)
	a = s.primitive(a, api.HintNumber)
	if a.Kind == api.KStr && b.Kind == api.KStr {
		return truth(slices.Compare(s.units(a), s.units(b)) == -1)
	}
	x, y := s.number(a), s.number(b)
	if x < y || x >= y {
		return truth(x < y)
	}
	return undefined()
}

func (s second) add(a, b api.Value) api.Value {
	a = s.primitive(a, api.HintDefault)
	b = s.primitive(b, api.HintDefault)
	if a.Kind != api.KStr && b.Kind != api.KStr {
		return num(s.number(a) + s.number(b))
	}
	sum := units.Of(slices.Concat(s.units(text(s.str(a))), s.units(text(s.str(b)))))
	if len(sum) > api.MaxStr {
		panic(rangeError())
	}
	return text(sum)
}

func (s second) typeOf(v api.Value) string {
	if s.h.Callable(v) {
		return "function"
	}
	return []string{"", "undefined", "object", "boolean", "number", "string", "symbol", "object"}[v.Kind]
}

// play is an act, by its name, of values of the heap.
func (s second) play(name string, a, b api.Value) (v api.Value, err error) {
	defer func() {
		if p := recover(); p != nil {
			v, err = api.Value{}, p.(error)
		}
	}()
	table := map[string]func() api.Value{
		"Method ":         func() api.Value { return s.method(a, toPrimitive) },
		"Method toString": func() api.Value { return s.method(a, toString) },
		"Method valueOf":  func() api.Value { return s.method(a, valueOf) },
		"Primitive 0":     func() api.Value { return s.primitive(a, 0) },
		"Primitive 1":     func() api.Value { return s.primitive(a, 1) },
		"Primitive 2":     func() api.Value { return s.primitive(a, 2) },
		"Number":          func() api.Value { return num(s.number(a)) },
		"String":          func() api.Value { return text(s.str(a)) },
		"Key":             func() api.Value { return s.key(a) },
		"Integer":         func() api.Value { return num(s.integer(a)) },
		"Length":          func() api.Value { return num(math.Min(math.Max(s.integer(a), 0), 1<<53-1)) },
		"Index":           func() api.Value { return num(s.index(a)) },
		"Int32":           func() api.Value { return num(float64(int32(s.modulo(a)))) },
		"Uint32":          func() api.Value { return num(float64(s.modulo(a))) },
		"TypeOf":          func() api.Value { return text(s.typeOf(a)) },
		"Loose":           func() api.Value { return truth(s.loose(a, b)) },
		"Less true":       func() api.Value { return s.less(a, b, true) },
		"Less false":      func() api.Value { return s.less(a, b, false) },
		"Add":             func() api.Value { return s.add(a, b) },
	}
	return table[name](), nil
}
