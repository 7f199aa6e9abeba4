package records_test

// The layer read a second time, by other means, as ECMA-262 has it (6.2.6.4, 6.2.6.5, 7.3.2 to 7.3.23): what throws or stops is a panic that the outermost call picks up, fields are written out one by one, lengths are found by hand, keys by the library; none of the package's functions is used, nor those of ordinary, desc, key and number.

import (
	"math"
	"strconv"
	"unicode/utf8"

	"cameo/api"
	"cameo/convert"
	"cameo/heap"
)

type second struct{ h *heap.Heap }

func must[T any](x T, err error) T {
	if err != nil {
		panic(err)
	}
	return x
}

func (s second) throwIf(is bool) {
	if is {
		panic(typeError())
	}
}

func (s second) stopIf(is bool, e api.Errno) {
	if is {
		panic(error(e))
	}
}

// well tells whether a value is well formed, by the words of the document; no string of these tests is odd beyond its bytes.
func well(v api.Value) bool {
	clean := func(w api.Value) bool { return w == api.Value{Kind: w.Kind} && !math.Signbit(w.Num) }
	rest := v
	switch v.Kind {
	case api.KUndefined, api.KNull:
	case api.KBool:
		rest.Bool = false
	case api.KNum:
		rest.Num = 0
	case api.KStr:
		rest.Str = ""
		return clean(rest) && len(v.Str) <= 1<<20 && (utf8.ValidString(v.Str) || v.Str == "\xed\xa0\xbd" || v.Str == "\xed\xb8\x80")
	case api.KSym, api.KRef:
		rest.Id = 0
		return clean(rest) && v.Id > 0 && v.Id <= 1<<16
	default:
		return false
	}
	return clean(rest)
}

func wellKey(k api.Key) bool {
	if k.Sym != 0 {
		return well(api.Value{Kind: api.KSym, Id: k.Sym, Str: k.Str})
	}
	return well(text(k.Str))
}

func (s second) there(o int) bool { return o > 0 && o <= s.h.Len() }

func (s second) stranger(v api.Value) bool { return v.Kind == api.KRef && !s.there(v.Id) }

// given asks for values, by the chapter's words.
func (s second) given(l ...api.Value) {
	for _, v := range l {
		s.stopIf(!well(v), api.ErrValue)
	}
	for _, v := range l {
		s.stopIf(s.stranger(v), api.ErrRef)
	}
}

func (s second) object(v api.Value) {
	s.given(v)
	s.throwIf(v.Kind != api.KRef)
}

func (s second) get(v api.Value, k api.Key) api.Value { return must(s.h.Get(v.Id, k, v)) }

// from is FromPropertyDescriptor.
func (s second) from(d api.Desc, proto api.Value) int {
	none := api.Value{}
	for _, v := range []api.Value{d.Value, d.Get, d.Set} {
		s.stopIf(v != none && !well(v), api.ErrValue)
	}
	for _, v := range []api.Value{d.Get, d.Set} {
		s.stopIf(v != none && v.Kind != api.KUndefined && v.Kind != api.KRef, api.ErrValue)
	}
	for _, x := range []api.Tri{d.Writable, d.Enumerable, d.Configurable} {
		s.stopIf(x < 0 || x > 2, api.ErrValue)
	}
	s.stopIf((d.Value != none || d.Writable != 0) && (d.Get != none || d.Set != none), api.ErrValue)
	for _, v := range []api.Value{d.Value, d.Get, d.Set} {
		s.stopIf(s.stranger(v), api.ErrRef)
	}
	o := must(s.h.Make(proto))
	for _, p := range laid(d) {
		heap.Ordinary{}.DefineOwnProperty(s.h, o, p.Key, p.Desc)
	}
	return o
}

// to is ToPropertyDescriptor.
func (s second) to(v api.Value) api.Desc {
	s.object(v)
	var d api.Desc
	field := func(name string) (api.Value, bool) {
		if !must(s.h.HasProperty(v.Id, str(name))) {
			return api.Value{}, false
		}
		return s.get(v, str(name)), true
	}
	if x, ok := field("enumerable"); ok {
		d.Enumerable = truth(x)
	}
	if x, ok := field("configurable"); ok {
		d.Configurable = truth(x)
	}
	if x, ok := field("value"); ok {
		d.Value = x
	}
	if x, ok := field("writable"); ok {
		d.Writable = truth(x)
	}
	if x, ok := field("get"); ok {
		s.throwIf(!s.h.Callable(x) && x != undefined())
		d.Get = x
	}
	if x, ok := field("set"); ok {
		s.throwIf(!s.h.Callable(x) && x != undefined())
		d.Set = x
	}
	if d.Get.Kind != 0 || d.Set.Kind != 0 {
		s.throwIf(d.Value.Kind != 0 || d.Writable != 0)
	}
	return d
}

func truth(v api.Value) api.Tri {
	switch {
	case v.Kind == api.KSym, v.Kind == api.KRef, v.Bool, v.Str != "", v.Num < 0, v.Num > 0:
		return api.Yes
	}
	return api.No
}

// length is LengthOfArrayLike.
func (s second) length(v api.Value) int64 {
	s.object(v)
	switch x := must(convert.Number(s.h, s.get(v, str("length")))); {
	case x >= 1<<53:
		return 1<<53 - 1
	case x >= 1:
		return int64(x)
	}
	return 0
}

// list is CreateListFromArrayLike.
func (s second) list(v api.Value, kinds ...int) []api.Value {
	n := s.length(v)
	s.stopIf(n > 1<<10, api.ErrLong)
	var l []api.Value
	for int64(len(l)) < n {
		x := s.get(v, str(strconv.Itoa(len(l))))
		fits := len(kinds) == 0
		for _, k := range kinds {
			fits = fits || x.Kind == k
		}
		s.throwIf(!fits)
		l = append(l, x)
	}
	return l
}

func (s second) keys(v api.Value) []api.Key {
	var l []api.Key
	for _, x := range s.list(v, api.KStr, api.KSym) {
		l = append(l, api.Key{Str: x.Str, Sym: x.Id})
	}
	return l
}

func (s second) invoke(v api.Value, k api.Key, args []api.Value) api.Value {
	s.stopIf(!wellKey(k), api.ErrValue)
	s.given(append([]api.Value{v}, args...)...)
	s.stopIf(len(args) > 1<<10, api.ErrLong)
	s.throwIf(v.Kind != api.KRef)
	f := s.get(v, k)
	s.throwIf(!s.h.Callable(f))
	return must(s.h.Call(f.Id, v, args))
}

// asked asks for an object, a key and a value.
func (s second) asked(o int, k api.Key, v api.Value) {
	s.stopIf(!s.there(o), api.ErrRef)
	s.stopIf(!wellKey(k), api.ErrValue)
	s.given(v)
}

func (s second) species(o int, def api.Value) api.Value {
	s.asked(o, str(""), def)
	c := s.get(ref(o), str("constructor"))
	if c == undefined() {
		return def
	}
	s.throwIf(c.Kind != api.KRef)
	x := s.get(c, sym(9))
	if x.Kind <= api.KNull {
		return def
	}
	s.throwIf(!s.h.Constructor(x))
	return x
}

// played is an act by the second reading.
func (s second) played(x act) (answer string, err error) {
	defer func() {
		if e, ok := recover().(error); ok {
			answer, err = "", e
		}
	}()
	switch x.name {
	case "From":
		return told(s.from(x.d, x.proto), nil)
	case "To":
		return told(s.to(x.v), nil)
	case "Length":
		return told(s.length(x.v), nil)
	case "List":
		return told(s.list(x.v), nil)
	case "Keys":
		return told(s.keys(x.v), nil)
	case "Invoke":
		return told(s.invoke(x.v, x.k, x.args), nil)
	case "Create":
		s.asked(x.o, x.k, x.v)
		s.throwIf(!must(s.h.DefineOwnProperty(x.o, x.k, api.Desc{Value: x.v, Writable: 2, Enumerable: 2, Configurable: 2})))
	case "Put":
		s.asked(x.o, x.k, x.v)
		s.throwIf(!must(s.h.Set(x.o, x.k, x.v, ref(x.o))))
	case "Remove":
		s.asked(x.o, x.k, null())
		s.throwIf(!must(s.h.Delete(x.o, x.k)))
	case "Species":
		return told(s.species(x.o, x.v), nil)
	}
	return told(0, nil)
}
