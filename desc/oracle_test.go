package desc_test

// What the document's words say, written down a second time, by other means than the package has: a descriptor is a map from the names of the fields that are there to their texts, and a property is defined by the steps of ECMA-262 10.1.6.3 over such maps.

import (
	"maps"
	"math"
	"strconv"
	"strings"

	"cameo/api"
)

var (
	nan    = math.NaN()
	minus0 = math.Copysign(0, -1)
	zero   = api.Desc{}
)

func undefined() api.Value     { return api.Value{Kind: api.KUndefined} }
func null() api.Value          { return api.Value{Kind: api.KNull} }
func boolean(b bool) api.Value { return api.Value{Kind: api.KBool, Bool: b} }
func num(x float64) api.Value  { return api.Value{Kind: api.KNum, Num: x} }
func str(s string) api.Value   { return api.Value{Kind: api.KStr, Str: s} }
func sym(n int) api.Value      { return api.Value{Kind: api.KSym, Id: n} }
func ref(n int) api.Value      { return api.Value{Kind: api.KRef, Id: n} }
func data(v api.Value, w, e, c api.Tri) api.Desc {
	return api.Desc{Value: v, Writable: w, Enumerable: e, Configurable: c}
}
func accessor(g, s api.Value, e, c api.Tri) api.Desc {
	return api.Desc{Get: g, Set: s, Enumerable: e, Configurable: c}
}

type fields map[string]string

func textOf(v api.Value) string {
	switch v.Kind {
	case api.KUndefined:
		return "undefined"
	case api.KNull:
		return "null"
	case api.KBool:
		return strconv.FormatBool(v.Bool)
	case api.KNum:
		return strconv.FormatFloat(v.Num, 'x', -1, 64)
	case api.KStr:
		return strconv.Quote(v.Str)
	}
	return strconv.Itoa(v.Kind) + "#" + strconv.Itoa(v.Id)
}

// fieldsOf is a descriptor that is well formed as a map.
func fieldsOf(d api.Desc) fields {
	f := fields{}
	for name, v := range map[string]api.Value{"value": d.Value, "get": d.Get, "set": d.Set} {
		if v.Kind != api.KNone {
			f[name] = textOf(v)
		}
	}
	for name, t := range map[string]api.Tri{"writable": d.Writable, "enumerable": d.Enumerable, "configurable": d.Configurable} {
		if t != api.Absent {
			f[name] = []string{"", "no", "yes"}[t]
		}
	}
	return f
}

func (f fields) has(names ...string) bool {
	for _, name := range names {
		if _, ok := f[name]; ok {
			return true
		}
	}
	return false
}

func (f fields) ofAccessor() bool { return f.has("get", "set") }
func (f fields) ofData() bool     { return f.has("value", "writable") }

func (f fields) whole() bool {
	if f.ofAccessor() {
		return len(f) == 4 && f.has("get") && f.has("set") && f.has("enumerable") && f.has("configurable")
	}
	return len(f) == 4
}

// over is f's fields, and those of the other one that f has not.
func (f fields) over(other fields) fields {
	out := maps.Clone(other)
	maps.Copy(out, f)
	return out
}

func (f fields) filled() fields {
	if f.ofAccessor() {
		return f.over(fields{"get": "undefined", "set": "undefined", "enumerable": "no", "configurable": "no"})
	}
	return f.over(fields{"value": "undefined", "writable": "no", "enumerable": "no", "configurable": "no"})
}

// defined is what becomes of a property that now tells when d is defined over it.
func defined(extensible bool, now, d fields) (fields, bool) {
	if len(now) == 0 {
		if extensible {
			return d.filled(), true
		}
		return now, false
	}
	if now["configurable"] == "no" {
		for name, text := range d {
			fixed := name != "value" && name != "writable" || now["writable"] != "yes"
			// A property that is fixed may be told again what it is; a field that it has not makes it another kind.
			if !now.has(name) || fixed && now[name] != text {
				return now, false
			}
		}
	}
	if now.ofData() && d.ofAccessor() || now.ofAccessor() && d.ofData() {
		return d.over(fields{"enumerable": now["enumerable"], "configurable": now["configurable"]}).filled(), true
	}
	return d.over(now), true
}

// holds is Keeps: what may be different is left out on both sides.
func holds(before, after fields) bool {
	if before["configurable"] != "no" {
		return true
	}
	b, a := maps.Clone(before), maps.Clone(after)
	if before["writable"] == "yes" {
		if !a.has("value") || !a.has("writable") {
			return false
		}
		for _, name := range []string{"value", "writable"} {
			delete(b, name)
			delete(a, name)
		}
	}
	return maps.Equal(a, b)
}

// smallValues are values that are near to one another, no two the same.
func smallValues() []api.Value {
	return []api.Value{undefined(), num(0), num(minus0), num(nan), num(1), str(""), str("a"), ref(1)}
}

func tris() []api.Tri { return []api.Tri{api.Absent, api.No, api.Yes} }

// descriptors are all that can be made well formed of a few values.
func descriptors() []api.Desc {
	var out []api.Desc
	for _, e := range tris() {
		for _, c := range tris() {
			for _, v := range append(smallValues(), api.Value{}) {
				for _, w := range tris() {
					out = append(out, data(v, w, e, c))
				}
			}
			functions := []api.Value{{}, undefined(), ref(1), ref(2)}
			for _, g := range functions {
				for _, s := range functions {
					if d := accessor(g, s, e, c); g.Kind != api.KNone || s.Kind != api.KNone {
						out = append(out, d)
					}
				}
			}
		}
	}
	return out
}

// properties are those of the descriptors that a property can have, the zero one behind them.
func properties() []api.Desc {
	var out []api.Desc
	for _, d := range descriptors() {
		if fieldsOf(d).whole() {
			out = append(out, d)
		}
	}
	return append(out, zero)
}

// brokenValues are neither values nor none.
func brokenValues() []api.Value {
	out := []api.Value{
		{Bool: true}, {Num: 1}, {Num: minus0}, {Num: nan}, {Str: "a"}, {Id: 1}, {Id: -1},
		{Kind: -1}, {Kind: 8}, {Kind: math.MaxInt}, {Kind: math.MinInt},
		{Kind: api.KUndefined, Bool: true}, {Kind: api.KUndefined, Num: minus0}, {Kind: api.KUndefined, Num: nan}, {Kind: api.KUndefined, Str: "a"}, {Kind: api.KUndefined, Id: 1},
		{Kind: api.KNull, Num: 1}, {Kind: api.KBool, Bool: true, Str: "a"}, {Kind: api.KNum, Num: 1, Bool: true}, {Kind: api.KNum, Id: 1}, {Kind: api.KStr, Str: "a", Id: 1},
		{Kind: api.KRef, Id: 1, Num: minus0}, {Kind: api.KRef, Id: 1, Bool: true}, {Kind: api.KRef, Id: 1, Str: "a"},
		str("\xFF"), str("a\xED\xA0\xBD\xED\xB8\x80"), str(strings.Repeat("a", api.MaxStr+1)),
	}
	for _, n := range []int{0, -1, api.MaxSyms + 1, math.MaxInt, math.MinInt} {
		out = append(out, sym(n), ref(n))
	}
	return out
}

// broken are descriptors that are not well formed, each for one reason alone: it stands in one field, and the others are what they may be.
func broken() []api.Desc {
	var out []api.Desc
	for _, v := range brokenValues() {
		out = append(out, api.Desc{Value: v}, data(v, api.Yes, api.Yes, api.Yes), data(v, api.No, api.No, api.No),
			api.Desc{Get: v}, accessor(v, undefined(), api.Yes, api.Yes), accessor(v, ref(1), api.No, api.No),
			api.Desc{Set: v}, accessor(undefined(), v, api.Yes, api.Yes), accessor(ref(1), v, api.No, api.No))
	}
	for _, v := range []api.Value{null(), boolean(false), boolean(true), num(0), num(minus0), num(nan), num(1), str(""), str("a"), sym(1), sym(api.MaxSyms)} {
		out = append(out, api.Desc{Get: v}, api.Desc{Set: v}, accessor(v, undefined(), api.No, api.Yes), accessor(ref(1), v, api.Yes, api.No))
	}
	for _, t := range []api.Tri{-1, -2, 3, 4, math.MaxInt, math.MinInt} {
		out = append(out, api.Desc{Writable: t}, api.Desc{Enumerable: t}, api.Desc{Configurable: t},
			data(num(1), t, api.Yes, api.Yes), data(num(1), api.Yes, t, api.Yes), data(num(1), api.Yes, api.Yes, t),
			accessor(ref(1), ref(1), t, api.Yes), accessor(ref(1), ref(1), api.Yes, t))
	}
	for _, g := range []api.Value{{}, undefined(), ref(1)} {
		for _, s := range []api.Value{{}, undefined(), ref(1)} {
			for _, w := range tris() {
				for _, v := range []api.Value{{}, undefined(), num(1)} {
					if (g.Kind != api.KNone || s.Kind != api.KNone) && (w != api.Absent || v.Kind != api.KNone) {
						out = append(out, api.Desc{Value: v, Get: g, Set: s, Writable: w}, api.Desc{Value: v, Get: g, Set: s, Writable: w, Enumerable: api.Yes, Configurable: api.Yes})
					}
				}
			}
		}
	}
	return out
}
