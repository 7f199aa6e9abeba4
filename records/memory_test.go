package records_test

// What is handed in is neither changed nor kept, and what is handed out is new memory (R4).

import (
	"slices"
	"testing"
	"unsafe"

	"cameo/api"
	"cameo/records"
)

// spoil writes over a list, and over the room behind its end.
func spoil[T any](l []T, x T) {
	for i := range l[:cap(l)] {
		l[:cap(l)][i] = x
	}
}

func shares(a, b string) bool { return unsafe.StringData(a) == unsafe.StringData(b) }

// apart tells whether no two strings are one memory.
func apart(l ...string) bool {
	for i, s := range l {
		if slices.ContainsFunc(l[:i], func(x string) bool { return shares(s, x) }) {
			return false
		}
	}
	return true
}

// word is a string that is nobody else's memory.
func word() string { return string([]byte("some word")) }

// 17.1, 17.5: the strings that are handed in are not kept.
func TestStringsAreTheCallers(t *testing.T) {
	h := newHeap(t, 3, 100, 5)
	one, two, three, four := word(), word(), word(), word()
	o, err := records.From(h, api.Desc{Value: text(one)}, null())
	if err != nil {
		t.Fatal(err)
	}
	create(o, str("a"), text(two)).is(t, h, 1, 0, nil)
	put(o, str("a"), text(three)).is(t, h, 3, 0, nil)
	put(o, str("b"), text(four)).is(t, h, 3, 0, nil)
	for _, s := range []string{one, two, three, four} {
		b := unsafe.Slice(unsafe.StringData(s), len(s))
		spoil(b, 'z')
	}
	s, _ := h.Shape(o)
	if !slices.Equal(s.Props, []api.Prop{has("value", text(word())), has("a", text(word())), has("b", text(word()))}) {
		t.Errorf("R4: %v", s)
	}
}

// 17.2, 17.3, 17.4, 17.6: the strings that are told are the caller's.
func TestToldStringsAreTheCallers(t *testing.T) {
	h := newHeap(t, 5, 1000, 5)
	o := made(t, h, null())
	kept, given := word(), word()
	echo := fn(t, h, api.Op{Code: api.OArg}, api.Op{Code: api.OReturn})
	for _, p := range []api.Prop{has("value", text(kept)), has("length", num(2)), has("0", text(kept)), has("1", text(kept)), has("echo", echo), has("give", giving(t, h, text(kept)))} {
		lay(t, h, o, p.Key, p.Desc)
	}
	before := h.Shapes()
	all := []string{kept, given}
	for _, p := range before[o-1].Props {
		if p.Desc.Value.Kind == api.KStr {
			all = append(all, p.Desc.Value.Str)
		}
	}
	for range 2 {
		d, _ := records.To(h, ref(o))
		l, _ := records.List(h, ref(o))
		k, _ := records.Keys(h, ref(o))
		echoed, _ := records.Invoke(h, ref(o), str("echo"), []api.Value{text(given)})
		told, _ := records.Invoke(h, ref(o), str("give"), nil)
		def, _ := records.Species(h, o, text(given))
		all = append(all, d.Value.Str, l[0].Str, l[1].Str, k[0].Str, k[1].Str, echoed.Str, told.Str, def.Str)
	}
	if !apart(all...) || slices.ContainsFunc(all, func(s string) bool { return s != word() }) {
		t.Errorf("R4: %q", all)
	}
	lay(t, h, o, str("constructor"), open(ref(made(t, h, null()))))
	if def, _ := records.Species(h, o, text(given)); shares(def.Str, given) {
		t.Error("R4: what is handed in is handed out")
	}
}

// 17.3: lists are the caller's, the room behind their end, too.
func TestListsAreTheCallers(t *testing.T) {
	for _, n := range []int{0, 1, 2, 5, 17, 1024} {
		h := newHeap(t, 1, 10000, 1)
		o := made(t, h, null())
		var values []api.Value
		var want []api.Key
		for i := range n {
			values, want = append(values, symbol(i+1)), append(want, sym(i+1))
			lay(t, h, o, at(i), open(symbol(i+1)))
		}
		lay(t, h, o, str("length"), open(num(float64(n))))
		before := h.Shapes()
		l, _ := records.List(h, ref(o))
		k, _ := records.Keys(h, ref(o))
		again, _ := records.List(h, ref(o))
		other, _ := records.Keys(h, ref(o))
		spoil(l, num(99))
		spoil(k, str("z"))
		if !slices.Equal(again, values) || !slices.Equal(other, want) || !sameShapes(h.Shapes(), before) {
			t.Errorf("R4: %v, %v", again, other)
		}
		list(o).is(t, h, n+1, values, nil)
		keys(o).is(t, h, n+1, want, nil)
	}
}

// 17.4: args are the caller's, the room behind their end, too.
func TestArgsAreTheCallers(t *testing.T) {
	h := newHeap(t, 4, 1000, 5)
	o := made(t, h, null())
	lay(t, h, o, str("f"), open(fn(t, h, api.Op{Code: api.OThis}, api.Op{Code: api.OArg, To: 1, A: 1}, api.Op{Code: api.OSet, To: 2, A: 0, B: 1, Key: str("a")}, api.Op{Code: api.OReturn, A: 1})))
	room := []api.Value{num(1), text(word()), ref(o), num(4), num(5)}
	copied := slices.Clone(room)
	invoke(o, str("f"), room[:3]...).is(t, h, 1+1+4+3, text(word()), nil)
	if !slices.Equal(room, copied) {
		t.Errorf("R4: what was handed in is %v", room)
	}
	s := room[1].Str
	b := unsafe.Slice(unsafe.StringData(s), len(s))
	spoil(b, 'z')
	spoil(room, num(99))
	if d := lying(h, o, str("a")); d.Value != text(word()) {
		t.Errorf("R4: what was handed in is kept: %v", d)
	}
}

// 17.1: descriptors and objects are two things: who changes the one changes nothing of the other.
func TestDescriptorsAreTheCallers(t *testing.T) {
	h := newHeap(t, 2, 1000, 5)
	d := api.Desc{Value: num(1), Writable: api.Yes, Enumerable: api.No, Configurable: api.Yes}
	from(d, null()).is(t, h, 0, 1, nil)
	from(d, null()).is(t, h, 0, 2, nil)
	told, _ := records.To(h, ref(1))
	told.Value, told.Writable = num(2), api.No
	d.Enumerable = api.Yes
	put(1, str("configurable"), no()).is(t, h, 3, 0, nil)
	to(1).is(t, h, 10, api.Desc{Value: num(1), Writable: api.Yes, Enumerable: api.No, Configurable: api.No}, nil)
	to(2).is(t, h, 10, api.Desc{Value: num(1), Writable: api.Yes, Enumerable: api.No, Configurable: api.Yes}, nil)
}

// What is thrown is new each time: who changes it changes nothing else.
func TestThrowsAreTheCallers(t *testing.T) {
	h := newHeap(t, 3, 1000, 5)
	o := made(t, h, null())
	bad := made(t, h, null())
	for _, s := range []string{"get", "0", "constructor"} {
		lay(t, h, bad, str(s), api.Desc{Value: num(1)})
	}
	lay(t, h, bad, str("length"), open(num(1)))
	shut(h, bad)
	for range 2 {
		for _, x := range []act{{name: "To", v: num(1)}, {name: "Length", v: num(1)}, {name: "List", v: null()}, {name: "Keys", v: text("a")}, {name: "Invoke", v: undefined()},
			to(bad), keys(bad), invoke(o, str("f")), create(bad, str("x"), num(1)), put(bad, str("0"), num(1)), remove(bad, str("0")), species(bad, null())} {
			_, err := x.played(h)
			thrown, ok := err.(*api.Thrown)
			if !ok || *thrown != (api.Thrown{Kind: api.XType}) {
				t.Fatalf("%s: %v", x.name, err)
			}
			*thrown = api.Thrown{Kind: 99, Value: text("junk")}
		}
	}
}

// Two heaps know nothing of each other.
func TestHeapsAreApart(t *testing.T) {
	a, b := newHeap(t, 2, 20, 5), newHeap(t, 2, 20, 5)
	from(api.Desc{Value: num(1)}, null()).is(t, a, 0, 1, nil)
	from(api.Desc{Get: undefined()}, null()).is(t, b, 0, 1, nil)
	to(1).is(t, a, 7, api.Desc{Value: num(1)}, nil)
	to(1).is(t, b, 7, api.Desc{Get: undefined()}, nil)
	create(1, str("a"), num(1)).is(t, a, 1, 0, nil)
	if s, _ := b.Shape(1); len(s.Props) != 1 || a.Fuel() != 12 || b.Fuel() != 13 {
		t.Errorf("%v, %d, %d", s, a.Fuel(), b.Fuel())
	}
}
