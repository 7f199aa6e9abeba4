package mirror_test

// 22.2, 22.3 and 22.8 of objects of every class, of proxies of them, and of values that are no objects.

import (
	"maps"
	"slices"
	"strconv"
	"strings"
	"testing"

	"cameo/api"
	"cameo/array"
	"cameo/heap"
	"cameo/mirror"
	"cameo/namespace"
	"cameo/strobj"
)

// sort is what an object of a world tells: its word, its keys that are enumerable strings, what it has under these, its other strings, and its symbols.
type sort struct {
	word   string
	keys   string
	values []api.Value
	hidden string
	marks  []int
}

// sorts is the objects of a world whose keys can all be asked, by their names.
func sorts() map[string]sort {
	a, five, u := []api.Value{num(1)}, num(5), undefined()
	l := []api.Value{num(7), text("x"), ref(1)}
	return map[string]sort{
		"base": {"Object", "base", a, "", nil}, "empty": {"Object", "", nil, "", nil}, "one": {"Object", "a", a, "", nil},
		"many": {"Object", "0 b a", []api.Value{u, num(1), five}, "7 .", []int{3, 1}},
		"shut": {"Object", "a b", []api.Value{num(1), five}, "", nil}, "sealed": {"Object", "a b", []api.Value{num(1), five}, "", nil}, "frozen": {"Object", "a b", []api.Value{num(1), five}, "", nil}, "child": {"Object", "c", a, "", nil},
		"function": {"Function", "", nil, "", nil}, "class": {"Function", "", nil, "prototype", nil}, "native": {"Function", "", nil, "", nil}, "getter": {"Function", "", nil, "", nil},
		"bound": {"Function", "", nil, "length name", nil}, "bound class": {"Function", "more", []api.Value{ref(1)}, "length name", nil},
		"array": {"Array", "0 1 2", l, "length", nil}, "empty array": {"Array", "", nil, "length", nil}, "short array": {"Array", "0 1 2", l, "length", nil},
		"long array": {"Array", "3 4294967294", []api.Value{num(2), num(1)}, "length", nil}, "described array": {"Array", "0 1", l[:2], "2 length", nil},
		"mapped": {"Arguments", "0 1 2", l, "length callee", nil}, "loosened": {"Arguments", "0 1 2", l, "length callee", nil}, "bare mapped": {"Arguments", "", nil, "length callee", nil}, "unmapped": {"Arguments", "0 1 2", l, "length callee", nil},
		"string": {"String", "0 1", []api.Value{text(high), text(low)}, "length", nil}, "empty string": {"String", "", nil, "length", nil},
		"described string": {"String", "0 1 5 a", []api.Value{text("a"), text("b"), ref(1), num(1)}, "length", []int{3}},
		"buffer":           {"Object", "a", a, "", nil}, "elements": {"Object", "0 1 2 a", []api.Value{num(0), num(0), num(0), num(1)}, "", nil}, "no elements": {"Object", "a", a, "", nil}, "detached": {"Object", "a", a, "", nil},
		"no exports": {"Module", "", nil, "", []int{api.SymToStringTag}}, "bound exports": {"Module", "a b", []api.Value{text("of a"), text("of b")}, "", []int{api.SymToStringTag}},
	}
}

// splits is words with blanks between; a dot is the empty one.
func splits(s string) []api.Value {
	var l []api.Value
	for _, w := range strings.Fields(s) {
		l = append(l, text(strings.TrimPrefix(w, ".")))
	}
	return l
}

// indices tells whether a word is an array index.
func indices(v api.Value) bool {
	_, err := strconv.ParseUint(v.Str, 10, 32)
	return err == nil
}

// all is an object's strings, in order: indices first, as they rise. (Of other ones those that are enumerable come first in a world, but for lengths of String objects, which are made with one, and of bound functions.)
func (s sort) all() []api.Value {
	l := append(splits(s.keys), splits(s.hidden)...)
	slices.SortStableFunc(l, func(a, b api.Value) int {
		if !indices(a) || !indices(b) {
			return map[bool]int{true: -1}[indices(a)] + map[bool]int{true: 1}[indices(b)]
		}
		x, _ := strconv.ParseUint(a.Str, 10, 32)
		y, _ := strconv.ParseUint(b.Str, 10, 32)
		return int(int64(x) - int64(y))
	})
	return l
}

// values is what lies in an array that a call has answered.
func values(t *testing.T, h *heap.Heap, v api.Value, err error) []api.Value {
	t.Helper()
	if err != nil {
		t.Fatal(err)
	}
	n, e := array.Length(h, v.Id)
	l, also := array.Values(h, v.Id, 10000)
	if e != api.OK || also != api.OK || len(l) != int(n) {
		t.Fatalf("%v: %v, %v: %v", v, e, also, l)
	}
	looks(t, h, v.Id, listed(l...))
	return l
}

// lists holds an object's lists against what they must be.
func (w world) lists(name string, o int, s sort) {
	w.t.Helper()
	keys, all, marks := splits(s.keys), s.all(), []api.Value(nil)
	for _, n := range s.marks {
		marks = append(marks, symbol(n))
	}
	if name == "described string" || strings.HasPrefix(name, "bound class") {
		all = append(slices.DeleteFunc(all, func(v api.Value) bool { return !indices(v) && !slices.Contains(splits(s.hidden), v) }), slices.DeleteFunc(slices.Clone(keys), indices)...)
	}
	for call, want := range map[string][]api.Value{"Keys": keys, "Values": s.values, "Names": all, "Symbols": marks, "OwnKeys": append(slices.Clone(all), marks...)} {
		f := map[string]func(*heap.Heap, api.Value) (api.Value, error){"Keys": mirror.Keys, "Values": mirror.Values, "Names": mirror.Names, "Symbols": mirror.Symbols, "OwnKeys": mirror.OwnKeys}[call]
		v, err := f(w.h, ref(o))
		if l := values(w.t, w.h, v, err); !sameValues(l, want) {
			w.t.Errorf("22.8: %s of %s: %v; want %v", call, name, l, want)
		}
	}
	v, err := mirror.Entries(w.h, ref(o))
	l := values(w.t, w.h, v, err)
	if len(l) != len(keys) {
		w.t.Fatalf("22.8: Entries of %s: %v; want %v", name, l, keys)
	}
	for i, e := range l {
		if pair := values(w.t, w.h, e, nil); !sameValues(pair, []api.Value{keys[i], s.values[i]}) {
			w.t.Errorf("22.8: Entries of %s: %v; want %v, %v", name, pair, keys[i], s.values[i])
		}
	}
}

// wordOf is the word of a sort, where its symbol is not asked.
func (s sort) wordOf(proxies int) string {
	if proxies > 0 && (s.word == "Arguments" || s.word == "String") {
		return "Object"
	}
	return s.word
}

// Objects of every class, and proxies without traps in front of them: a proxy is an array and a function, if its target is, and nothing else.
func TestEveryClass(t *testing.T) {
	for _, name := range slices.Sorted(maps.Keys(sorts())) {
		s := sorts()[name]
		w := newWorld(t, 1<<20, 20)
		o, p := w.n[name], w.n[name]
		for n := range 4 {
			ask("Object", ref(p)).stays(t, w.h, 0, p, nil)
			ask("IsArray", ref(p)).stays(t, w.h, 0, s.word == "Array", nil)
			fuel := w.h.Fuel()
			if _, err := w.h.Get(o, sym(api.SymToStringTag), ref(o)); err != nil {
				t.Fatal(err)
			}
			ask("Tag", ref(p)).stays(t, w.h, fuel-w.h.Fuel()+2*n, "[object "+s.wordOf(n)+"]", nil)
			w.lists(name, p, s)
			p = w.proxy(p)
		}
	}
}

// The exports of a namespace that are bound to nothing yet can be named, but not be told.
func TestUnbound(t *testing.T) {
	w := newWorld(t, 1000, 20)
	o, n := ref(w.n["exports"]), w.h.Len()
	ask("Tag", o).stays(t, w.h, 1, "[object Module]", nil)
	ask("Names", o).adds(t, w.h, 1, ref(n+1), nil, listed(text("a"), text("b")))
	ask("Symbols", o).adds(t, w.h, 1, ref(n+2), nil, listed(symbol(api.SymToStringTag)))
	ask("OwnKeys", o).adds(t, w.h, 1, ref(n+3), nil, listed(text("a"), text("b"), symbol(api.SymToStringTag)))
	// The keys; of a GetOwnProperty, which enters Get; and once more what is asked of a; of b the first of these.
	ask("Keys", o).stays(t, w.h, 1+2+2, nil, referenceError())
	ask("Values", o).stays(t, w.h, 1+3+2, nil, referenceError())
	ask("Entries", o).adds(t, w.h, 1+3+2, nil, referenceError(), listed(text("a"), num(1)))
	ask("Descriptors", o).adds(t, w.h, 1+3+2, nil, referenceError(), bare(has("a", ref(n+6))), telling(data(num(1), "we")))
	ask("Descriptor", o, text("b")).stays(t, w.h, 2, nil, referenceError())
	ask("HasOwn", o, text("b")).stays(t, w.h, 2, nil, referenceError())
	ask("Has", o, text("b")).stays(t, w.h, 1, true, nil)
	ask("Get", o, text("b"), o).stays(t, w.h, 1, nil, referenceError())
	ask("DeleteProperty", o, text("b")).stays(t, w.h, 1, false, nil)
	ask("Assign", ref(w.n["empty"]), o).is(t, w.h, 1+3+4+2, nil, referenceError()) // Set goes to the prototype, too
	looks(t, w.h, w.n["empty"], api.Shape{Class: api.COrdinary, Proto: ref(1), Extensible: true, Props: []api.Prop{has("a", num(1))}})
	namespace.Bind(w.h, o.Id, "b", text("now"))
	w.lists("exports", o.Id, sort{"Module", "a b", []api.Value{num(1), text("now")}, "", []int{api.SymToStringTag}})
}

// A revoked proxy, and proxies of it: IsArray and Tag throw without asking anybody, all else where it is asked first.
func TestRevoked(t *testing.T) {
	w := newWorld(t, 1000, 20)
	for _, name := range []string{"array", "function", "class", "one"} {
		p := w.revoked(w.n[name])
		for n := range 3 {
			ask("Object", ref(p)).stays(t, w.h, 0, p, nil)
			ask("IsArray", ref(p)).stays(t, w.h, 0, nil, typeError())
			ask("Tag", ref(p)).stays(t, w.h, 0, nil, typeError())
			for call, takes := range takes() {
				v := slices.Repeat([]api.Value{text("a")}, takes)
				v[0] = ref(p)
				switch call {
				case "Object", "IsArray", "Tag", "Apply", "Construct", "Create":
					continue
				case "DefineProperty":
					v[2] = ref(1)
				case "SetPrototypeOf":
					v[1] = null()
				case "Assign": // its target is not asked
					v[0], v[1] = ref(1), ref(p)
				case "DefineProperties":
					v[0], v[1] = ref(1), ref(p)
				}
				cost := 1 + 2*n
				if call == "DefineProperty" {
					cost += 6
				}
				ask(call, v...).stays(t, w.h, cost, nil, typeError())
			}
			p = w.proxy(p)
		}
	}
	f, l := w.revoked(w.n["class"]), object(t, w.h, null(), has("length", num(0)))
	ask("Apply", ref(f), null(), ref(l)).stays(t, w.h, 1+1, nil, typeError())
	ask("Construct", ref(f), ref(l), ref(f)).stays(t, w.h, 1+1, nil, typeError())
	ask("Create", ref(f), undefined()).adds(t, w.h, 0, ref(w.h.Len()+1), nil, api.Shape{Class: api.COrdinary, Proto: ref(f), Extensible: true})
	ask("Assign", ref(f), ref(w.n["one"])).stays(t, w.h, 1+1+1+1, nil, typeError())
}

// A proxy is asked who it is as it is now: revoked in the midst of nothing, at any place of a row of proxies.
func TestRowsOfProxies(t *testing.T) {
	for at := range 6 {
		w := newWorld(t, 100, 20)
		l := []int{w.n["array"]}
		for range 5 {
			l = append(l, w.proxy(l[len(l)-1]))
		}
		ask("IsArray", ref(l[5])).stays(t, w.h, 0, true, nil)
		if at > 0 {
			w.revoke(l[at])
		}
		for i, o := range l {
			if at > 0 && i >= at {
				ask("IsArray", ref(o)).stays(t, w.h, 0, nil, typeError())
			} else {
				ask("IsArray", ref(o)).stays(t, w.h, 0, true, nil)
			}
		}
	}
}

// A long row of proxies is gone through without fuel, and without depth.
func TestLongRow(t *testing.T) {
	h := newHeap(t, 20000, 0, 1)
	n, err := array.New(h, null(), 0)
	o, handler := made(t, n, err), object(t, h, null())
	p := o
	for range 19990 {
		p = proxied(t, h, p, handler)
	}
	ask("IsArray", ref(p)).is(t, h, 0, true, nil)
	ask("Tag", ref(p)).is(t, h, 0, nil, api.ErrFuel)
	ask("Tag", ref(o)).is(t, h, 0, nil, api.ErrFuel)
}

// Of values that are no objects: their word, that they are no arrays, and a new object of them.
func TestNoObjects(t *testing.T) {
	words := map[int]string{api.KUndefined: "Undefined", api.KNull: "Null", api.KBool: "Boolean", api.KNum: "Number", api.KStr: "String", api.KSym: "Symbol"}
	for fuel := range 2 {
		h := newHeap(t, 60, fuel, 1)
		for _, v := range append(plain(), text(strings.Repeat("a", 3)), text("\U0001f600"+low+high)) {
			ask("IsArray", v).stays(t, h, 0, false, nil)
			ask("Tag", v).stays(t, h, 0, "[object "+words[v.Kind]+"]", nil)
			switch v.Kind {
			case api.KUndefined, api.KNull:
				ask("Object", v).stays(t, h, 0, nil, typeError())
			case api.KStr:
				units := 0
				for _, c := range v.Str { // a surrogate alone is three bytes of no rune each
					units += map[bool]int{true: 2, false: 1}[c > 0xffff]
				}
				units -= 2 * strings.Count(v.Str, "\xed")
				ask("Object", v).adds(t, h, 0, h.Len()+1, nil, wrapped(units))
				if s, e := strobj.Data(h, h.Len()); s != v.Str || e != api.OK {
					t.Errorf("22.2: %v became %q, %v", v, s, e)
				}
			default:
				ask("Object", v).adds(t, h, 0, h.Len()+1, nil, bare())
			}
		}
	}
}

// Where there is no room for the new object, that stops; what is an object needs none.
func TestNoRoom(t *testing.T) {
	h := newHeap(t, 1, 1000, 9)
	object(t, h, null(), has("a", num(1)))
	for _, v := range plain() {
		want := error(api.ErrFull)
		if v.Kind == api.KUndefined || v.Kind == api.KNull {
			want = typeError()
		}
		for _, name := range makesObject() {
			l := slices.Repeat([]api.Value{ref(1)}, takes()[name])
			l[0] = v
			ask(name, l...).stays(t, h, 0, nil, want)
		}
		ask("DefineProperties", ref(1), v).stays(t, h, 0, nil, want)
	}
	ask("Object", ref(1)).stays(t, h, 0, 1, nil)
	ask("HasOwn", ref(1), text("a")).stays(t, h, 1, true, nil)
	ask("Assign", ref(1), ref(1), null()).stays(t, h, 1+2+3, ref(1), nil)
	ask("Create", null(), undefined()).stays(t, h, 0, nil, api.ErrFull)
	ask("Create", ref(1), ref(1)).stays(t, h, 0, nil, api.ErrFull)
	for _, name := range []string{"Keys", "Names", "Symbols", "OwnKeys"} {
		ask(name, ref(1)).stays(t, h, map[bool]int{true: 2, false: 1}[name == "Keys"], nil, api.ErrFull)
	}
}

// Strings of several units: each is a property that is told; the last own key is length.
func TestStrings(t *testing.T) {
	for _, s := range []string{"", "a", "ab", "\U0001f600", high, low + high, "a\U0001f600b"} {
		h := newHeap(t, 60, 1000, 9)
		var keys, units []api.Value
		for i, u := range unitsOf(s) {
			keys, units = append(keys, text(strconv.Itoa(i))), append(units, text(u))
		}
		n := len(keys)
		ask("Keys", text(s)).adds(t, h, 2+n, ref(2), nil, wrapped(n), listed(keys...))
		ask("Values", text(s)).adds(t, h, 2+2*n, ref(4), nil, wrapped(n), listed(units...))
		ask("Names", text(s)).adds(t, h, 1, ref(6), nil, wrapped(n), listed(append(keys, text("length"))...))
		ask("Symbols", text(s)).adds(t, h, 1, ref(8), nil, wrapped(n), listed())
		ask("HasOwn", text(s), num(0)).adds(t, h, 1, n > 0, nil, wrapped(n))
		ask("HasOwn", text(s), num(float64(n))).adds(t, h, 1, false, nil, wrapped(n))
		ask("HasOwn", text(s), text("length")).adds(t, h, 1, true, nil, wrapped(n))
		o := object(t, h, null())
		ask("Assign", ref(o), null(), text(s), undefined()).is(t, h, 2+5*n, ref(o), nil)
		for i, u := range units {
			if d := shapeOf(t, h, o).Props[i]; !sameProp(d, has(strconv.Itoa(i), u)) {
				t.Errorf("22.7: of %q: %v; want %v", s, d, u)
			}
		}
	}
}

// unitsOf is a string's units, each as a string of its own.
func unitsOf(s string) []string {
	var l []string
	for len(s) > 0 {
		switch n := map[bool]int{true: 3, false: 1}[s[0] == 0xed]; {
		case s[0] >= 0xf0: // a pair
			l, s = append(l, high, low), s[4:]
		default:
			l, s = append(l, s[:n]), s[n:]
		}
	}
	return l
}

// A tag may be of 2^20 bytes, and of no more.
func TestLongTags(t *testing.T) {
	around := len("[object ]")
	for _, unit := range []string{"a", high, "\U0001f600"} {
		for n := api.MaxStr - around - 4; n <= api.MaxStr; n++ {
			if n > api.MaxStr-around+4 && n < api.MaxStr-4 {
				continue
			}
			word := strings.Repeat(unit, n/len(unit))
			word += strings.Repeat("x", n-len(word))
			h := newHeap(t, 2, 10, 2)
			object(t, h, null(), marked(api.SymToStringTag, data(text(word), "")))
			if n <= api.MaxStr-around {
				ask("Tag", ref(1)).is(t, h, 1, "[object "+word+"]", nil)
			} else {
				ask("Tag", ref(1)).is(t, h, 1, nil, &api.Thrown{Kind: api.XRange})
			}
		}
	}
}
