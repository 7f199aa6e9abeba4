package namespace_test

// The layer read a second time, by other means, as ECMA-262 has it (10.4.6.1 to 10.4.6.12): names are kept as rows of units that are found by hand, exports in no order at all, each as a variable of its own; all eleven methods are turned; none of the package's functions is used, nor those of units, value, key and desc.

import (
	"slices"
	"unicode/utf16"
	"unicode/utf8"

	"cameo/api"
	"cameo/heap"
	"cameo/namespace"
)

// twinUnits is the code units of a string, found by the first byte of each code point.
func twinUnits(s string) []uint16 {
	var l []uint16
	for i := 0; i < len(s); {
		switch b := s[i]; {
		case b < 0x80:
			l = append(l, uint16(b))
			i++
		case b < 0xE0:
			l = append(l, uint16(b&0x1F)<<6|uint16(s[i+1]&0x3F))
			i += 2
		case b < 0xF0:
			l = append(l, uint16(b&0x0F)<<12|uint16(s[i+1]&0x3F)<<6|uint16(s[i+2]&0x3F))
			i += 3
		default:
			c, _ := utf8.DecodeRuneInString(s[i:])
			first, second := utf16.EncodeRune(c)
			l = append(l, uint16(first), uint16(second))
			i += 4
		}
	}
	return l
}

func twinCompare(a, b string) int { return slices.Compare(twinUnits(a), twinUnits(b)) }

func twinSorted(names []string) []string {
	l := slices.Clone(names)
	slices.SortFunc(l, twinCompare)
	return l
}

// twinValid tells whether bytes are a string: each code point is UTF-8, or a surrogate, and no high one stands ahead of a low one.
func twinValid(s string) bool {
	was := rune(0)
	for i := 0; i < len(s); {
		c, n := utf8.DecodeRuneInString(s[i:])
		if c == utf8.RuneError && n == 1 {
			if len(s) < i+3 || s[i] != 0xED || s[i+1] < 0xA0 || s[i+1] > 0xBF || s[i+2] < 0x80 || s[i+2] > 0xBF {
				return false
			}
			c, n = 0xD000|rune(s[i+1]&0x3F)<<6|rune(s[i+2]&0x3F), 3
		}
		if utf16.IsSurrogate(was) && was < 0xDC00 && utf16.IsSurrogate(c) && c >= 0xDC00 {
			return false
		}
		was = c
		i += n
	}
	return len(s) <= api.MaxStr
}

// variable is an export, by the second reading.
type variable struct {
	name string
	v    *api.Value // nil, while it is bound to nothing yet
}

// scope is what a namespace has, by the second reading.
type scope struct{ l []*variable }

func (s *scope) find(name string) *variable {
	for _, x := range s.l {
		if x.name == name {
			return x
		}
	}
	return nil
}

func scopeOf(h *heap.Heap, o int) *scope { return h.Own(o).(*scope) }

// twin is the methods of a namespace, by the second reading. Of symbols there is one alone.
type twin struct{ heap.Ordinary }

func (twin) GetPrototypeOf(*heap.Heap, int) (api.Value, error) { return null(), nil }

func (twin) SetPrototypeOf(_ *heap.Heap, _ int, v api.Value) (bool, error) {
	return v.Kind == api.KNull, nil
}

func (twin) IsExtensible(*heap.Heap, int) (bool, error) { return false, nil }

func (twin) PreventExtensions(*heap.Heap, int) (bool, error) { return true, nil }

func (twin) GetOwnProperty(h *heap.Heap, o int, k api.Key) (api.Desc, bool, error) {
	switch {
	case k == tag():
		return data(text("Module"), ""), true, nil
	case k.Sym != 0 || scopeOf(h, o).find(k.Str) == nil:
		return api.Desc{}, false, nil
	}
	v, err := h.Get(o, k, ref(o))
	if err != nil {
		return api.Desc{}, false, err
	}
	return data(v, "we"), true, nil
}

func (twin) DefineOwnProperty(h *heap.Heap, o int, k api.Key, d api.Desc) (bool, error) {
	if k.Sym != 0 {
		return k == tag() && fits(data(text("Module"), ""), d), nil
	}
	now, ok, err := h.GetOwnProperty(o, k)
	return ok && fits(now, d), err
}

// fits tells whether each field that is there is what that of a property is, which is one of data.
func fits(now, d api.Desc) bool {
	flag := func(a, b api.Tri) bool { return b == api.Absent || a == b }
	return flag(now.Writable, d.Writable) && flag(now.Enumerable, d.Enumerable) && flag(now.Configurable, d.Configurable) &&
		d.Get.Kind == api.KNone && d.Set.Kind == api.KNone && (d.Value.Kind == api.KNone || sameValue(d.Value, now.Value))
}

func (twin) HasProperty(h *heap.Heap, o int, k api.Key) (bool, error) {
	return k == tag() || k.Sym == 0 && scopeOf(h, o).find(k.Str) != nil, nil
}

func (twin) Get(h *heap.Heap, o int, k api.Key, _ api.Value) (api.Value, error) {
	switch x := scopeOf(h, o).find(k.Str); {
	case k == tag():
		return text("Module"), nil
	case k.Sym != 0 || x == nil:
		return undefined(), nil
	case x.v == nil:
		return api.Value{}, referenceError()
	default:
		return *x.v, nil
	}
}

func (twin) Set(*heap.Heap, int, api.Key, api.Value, api.Value) (bool, error) { return false, nil }

func (m twin) Delete(h *heap.Heap, o int, k api.Key) (bool, error) {
	has, _ := m.HasProperty(h, o, k)
	return !has, nil
}

func (twin) OwnPropertyKeys(h *heap.Heap, o int) ([]api.Key, error) {
	var names []string
	for _, x := range scopeOf(h, o).l {
		names = append(names, x.name)
	}
	var keys []api.Key
	for _, s := range twinSorted(names) {
		keys = append(keys, str(s))
	}
	return append(keys, tag()), nil
}

// reading is the layer, by the package or by the second reading.
type reading struct {
	make func(h *heap.Heap, names []string) (int, error)
	bind func(h *heap.Heap, o int, name string, v api.Value) api.Errno
	list func(h *heap.Heap, o int) ([]string, []api.Value, api.Errno)
}

func byPackage() reading { return reading{namespace.New, namespace.Bind, namespace.Exports} }

func byTwins() reading { return reading{twinNew, twinBind, twinExports} }

func twinNew(h *heap.Heap, names []string) (int, error) {
	s := &scope{}
	for _, name := range names {
		if !twinValid(name) || s.find(name) != nil {
			return 0, api.ErrValue
		}
		s.l = append(s.l, &variable{name: name})
	}
	o, err := h.Add(api.CNamespace, null(), twin{}, s)
	if err == nil {
		heap.Ordinary{}.DefineOwnProperty(h, o, tag(), data(text("Module"), ""))
		heap.Ordinary{}.PreventExtensions(h, o)
	}
	return o, err
}

func twinOwn(h *heap.Heap, o int) (*scope, api.Errno) {
	if o < 1 || o > h.Len() {
		return nil, api.ErrRef
	}
	if s, ok := h.Own(o).(*scope); ok {
		return s, api.OK
	}
	return nil, api.ErrKind
}

func twinBind(h *heap.Heap, o int, name string, v api.Value) api.Errno {
	s, e := twinOwn(h, o)
	if e != api.OK {
		return e
	}
	if e := h.Check(v); e != api.OK {
		return e
	}
	x := s.find(name)
	if x == nil {
		return api.ErrRange
	}
	x.v = &v
	return api.OK
}

func twinExports(h *heap.Heap, o int) ([]string, []api.Value, api.Errno) {
	s, e := twinOwn(h, o)
	if e != api.OK {
		return nil, nil, e
	}
	var names []string
	for _, x := range s.l {
		names = append(names, x.name)
	}
	names = twinSorted(names)
	values := make([]api.Value, len(names))
	for i, name := range names {
		if v := s.find(name).v; v != nil {
			values[i] = *v
		}
	}
	return names, values, api.OK
}
