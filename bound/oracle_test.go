package bound_test

// The layer read a second time, by other means, as ECMA-262 has it (10.4.1, 20.2.3.2, 7.3.22, 13.10.2): what throws or stops is a panic that the outermost call picks up, lengths are found by numbers of any size, what is bound is an object of the tests' own; none of the package's functions is used.

import (
	"math"
	"math/big"
	"unicode/utf8"

	"cameo/api"
	"cameo/heap"
)

type second struct{ h *heap.Heap }

func must[T any](x T, err error) T {
	if err != nil {
		panic(err)
	}
	return x
}

func throwIf(is bool, err error) {
	if is {
		panic(err)
	}
}

// exotic is the methods of what the second reading binds, exoticClass those of what can be constructed, too.
type exotic struct{ heap.Ordinary }

type exoticClass struct{ exotic }

// joined is the arguments of both times, one by one.
func joined(b *binding, args []api.Value) []api.Value {
	var l []api.Value
	for i := range len(b.args) + len(args) {
		if i < len(b.args) {
			l = append(l, b.args[i])
		} else {
			l = append(l, args[i-len(b.args)])
		}
	}
	return l
}

func (exotic) Call(h *heap.Heap, f int, _ api.Value, args []api.Value) (api.Value, error) {
	b := h.Own(f).(*binding)
	return h.Call(b.target, b.this, joined(b, args))
}

func (exoticClass) Construct(h *heap.Heap, f int, args []api.Value, target int) (int, error) {
	b := h.Own(f).(*binding)
	if f != target {
		return h.Construct(b.target, joined(b, args), target)
	}
	return h.Construct(b.target, joined(b, args), b.target)
}

// well tells whether a value is well formed, by the words of the document; no string of these tests is odd beyond its bytes.
func well(v api.Value) bool {
	clean := func(w api.Value) bool { return w == api.Value{Kind: w.Kind} && !math.Signbit(w.Num) }
	rest := v
	switch v.Kind {
	case api.KUndefined, api.KNull:
	case api.KBool:
		rest.Bool = false
	case api.KNum:
		rest.Num = 0
	case api.KStr:
		rest.Str = ""
		return clean(rest) && len(v.Str) <= 1<<20 && (utf8.ValidString(v.Str) || v.Str == "\xed\xa0\xbd" || v.Str == "\xed\xb8\x80")
	case api.KSym, api.KRef:
		rest.Id = 0
		return clean(rest) && v.Id > 0 && v.Id <= 1<<16
	default:
		return false
	}
	return clean(rest)
}

func (s second) there(o int) bool { return o > 0 && o <= s.h.Len() }

// given asks for one value behind the other.
func (s second) given(l ...api.Value) {
	for _, v := range l {
		throwIf(!well(v), api.ErrValue)
		throwIf(v.Kind == api.KRef && !s.there(v.Id), api.ErrRef)
	}
}

func (s second) get(v api.Value, k api.Key) api.Value { return must(s.h.Get(v.Id, k, v)) }

// bind is Function.prototype.bind.
func (s second) bind(f int, this api.Value, args []api.Value) int {
	throwIf(!s.there(f), api.ErrRef)
	s.given(this)
	s.given(args...)
	throwIf(len(args) > 1<<10, api.ErrLong)
	throwIf(!s.h.Callable(ref(f)), api.ErrKind)
	proto := must(s.h.GetPrototypeOf(f))
	var m heap.Methods = exotic{}
	if s.h.Constructor(ref(f)) {
		m = exoticClass{}
	}
	o := must(s.h.Add(api.CBound, proto, m, &binding{f, this, append([]api.Value(nil), args...)}))
	s.put(o, "length", num(s.length(f, len(args))))
	name := s.get(ref(f), str("name"))
	if name.Kind != api.KStr {
		name = text("")
	}
	throwIf(len(name.Str)+6 > 1<<20, rangeError())
	s.put(o, "name", text("bound "+name.Str))
	return o
}

// put lays a property there that may only be defined anew.
func (s second) put(o int, k string, v api.Value) {
	heap.Ordinary{}.DefineOwnProperty(s.h, o, str(k), api.Desc{Value: v, Writable: 1, Enumerable: 1, Configurable: 2})
}

func (s second) length(f, n int) float64 {
	if _, own, err := s.h.GetOwnProperty(f, str("length")); err != nil || !own {
		throwIf(err != nil, err)
		return 0
	}
	v := s.get(ref(f), str("length"))
	switch {
	case v.Kind != api.KNum, v.Num != v.Num, v.Num < 1:
		return 0
	case v.Num > math.MaxFloat64:
		return v.Num
	}
	whole, _ := new(big.Float).SetFloat64(v.Num).Int(nil)
	if whole.Sub(whole, big.NewInt(int64(n))); whole.Sign() <= 0 {
		return 0
	}
	x, _ := new(big.Float).SetInt(whole).Float64()
	return x
}

// instanceOf is InstanceofOperator.
func (s second) instanceOf(v, c api.Value) bool {
	s.given(v, c)
	throwIf(c.Kind != api.KRef, typeError())
	if m := s.get(c, sym(2)); m != undefined() && m != null() {
		throwIf(!s.h.Callable(m), typeError())
		return truthy(must(s.h.Call(m.Id, c, []api.Value{v})))
	}
	throwIf(!s.h.Callable(c), typeError())
	return s.hasInstance(c, v)
}

// hasInstance is OrdinaryHasInstance.
func (s second) hasInstance(c, v api.Value) bool {
	s.given(v, c)
	if !s.h.Callable(c) {
		return false
	}
	if b, ok := s.h.Own(c.Id).(*binding); ok {
		return s.instanceOf(v, ref(b.target))
	}
	if v.Kind != api.KRef {
		return false
	}
	p := s.get(c, str("prototype"))
	throwIf(p.Kind != api.KRef, typeError())
	for {
		v = must(s.h.GetPrototypeOf(v.Id))
		if v == null() || v == p {
			return v == p
		}
	}
}

func (s second) target(f int) binding {
	throwIf(!s.there(f), api.ErrRef)
	b, ok := s.h.Own(f).(*binding)
	throwIf(!ok, api.ErrKind)
	return *b
}

// played is an act by the second reading.
func (s second) played(x act) (answer string, err error) {
	defer func() {
		if e, ok := recover().(error); ok {
			answer, err = "", e
		}
	}()
	switch x.name {
	case "Bind":
		return said(s.bind(x.f, x.this, x.args), nil)
	case "Target":
		return said(s.target(x.f), nil)
	case "InstanceOf":
		return said(s.instanceOf(x.v, x.c), nil)
	case "HasInstance":
		return said(s.hasInstance(x.c, x.v), nil)
	}
	return x.played(s.h)
}
