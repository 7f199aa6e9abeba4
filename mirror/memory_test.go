package mirror_test

// What is handed in is neither changed nor kept, and what is handed out is new memory (R4).

import (
	"errors"
	"slices"
	"strings"
	"testing"
	"unsafe"

	"cameo/api"
	"cameo/heap"
	"cameo/mirror"
	"cameo/strobj"
)

// lent is a string that lies in bytes of the caller's.
func lent(bytes []byte) string { return unsafe.String(&bytes[0], len(bytes)) }

// spoil writes over bytes, or over those that a string lies in.
func spoil(bytes []byte) {
	for i := range bytes {
		bytes[i] = 'z'
	}
}

func spoilString(s string) { spoil(unsafe.Slice(unsafe.StringData(s), len(s))) }

// apart tells whether two strings that are the same lie in memory of their own.
func apart(a, b string) bool { return a == b && unsafe.StringData(a) != unsafe.StringData(b) }

// A tag is the caller's, whatever it is of.
func TestTagsAreTheCallers(t *testing.T) {
	w := newWorld(t, 1000, 9)
	lay(t, w.h, w.n["one"], marked(api.SymToStringTag, data(text("some word"), "")))
	l := append(plain(), ref(w.n["one"]), ref(w.n["array"]), ref(w.n["mapped"]), ref(w.n["string"]), ref(w.n["function"]), ref(w.n["empty"]), ref(w.n["bound exports"]))
	for _, v := range l {
		one, err := mirror.Tag(w.h, v)
		two, also := mirror.Tag(w.h, v)
		if err != nil || also != nil || !apart(one, two) {
			t.Errorf("R4: %v: %q, %v, %q, %v", v, one, err, two, also)
		}
		want := strings.Clone(one)
		spoilString(one)
		if three, err := mirror.Tag(w.h, v); two != want || three != want || err != nil {
			t.Errorf("R4: %v: %q, %q, %v; want %q", v, two, three, err, want)
		}
	}
}

// What Get and Apply answer is the caller's: what lies in a property, what a getter answers, and what was handed in as a receiver.
func TestAnswersAreTheCallers(t *testing.T) {
	h := newHeap(t, 60, 1000, 9)
	itself := addNative(t, h, func(this api.Value, _ []api.Value) (api.Value, error) { return this, nil })
	kept := text("kept by a function")
	keeps := addNative(t, h, func(api.Value, []api.Value) (api.Value, error) { return kept, nil })
	o := object(t, h, null(), has("a", text("some words")), got("itself", itself), got("keeps", keeps))
	l := object(t, h, null(), has("length", num(0)))
	bytes := []byte("the receiver")
	for i, ask := range []func() (api.Value, error){
		func() (api.Value, error) { return mirror.Get(h, ref(o), text("a"), ref(o)) },
		func() (api.Value, error) { return mirror.Get(h, ref(o), text("keeps"), ref(o)) },
		func() (api.Value, error) { return mirror.Get(h, ref(o), text("itself"), text(lent(bytes))) },
		func() (api.Value, error) { return mirror.Apply(h, ref(keeps), null(), ref(l)) },
		func() (api.Value, error) { return mirror.Apply(h, ref(itself), text(lent(bytes)), ref(l)) },
	} {
		one, err := ask()
		two, also := ask()
		if err != nil || also != nil || one.Kind != api.KStr || !apart(one.Str, two.Str) || unsafe.StringData(one.Str) == &bytes[0] || unsafe.StringData(one.Str) == unsafe.StringData(kept.Str) {
			t.Errorf("R4: %d: %v, %v, %v, %v", i, one, err, two, also)
		}
		want := strings.Clone(two.Str)
		spoilString(one.Str)
		if three, err := ask(); three.Str != want || two.Str != want || err != nil {
			t.Errorf("R4: %d: %v, %v; want %q", i, two, three, want)
		}
	}
	if string(bytes) != "the receiver" || kept.Str != "kept by a function" {
		t.Errorf("R4: %q, %q", bytes, kept.Str)
	}
	looks(t, h, o, shape(null(), has("a", text("some words")), got("itself", itself), got("keeps", keeps)))
}

// Keys and values that are handed in are not kept: what is laid into objects, made of them, and told.
func TestValuesAreNotKept(t *testing.T) {
	h := newHeap(t, 60, 1000, 9)
	o := object(t, h, null())
	d := object(t, h, null(), has("value", text("of d")), has("writable", yes()), has("enumerable", yes()), has("configurable", yes()))
	a, b, c, s := []byte("a key"), []byte("a value"), []byte("another"), []byte("ab")
	ask("Set", ref(o), text(lent(a)), text(lent(b)), ref(o)).is(t, h, 3, true, nil)
	ask("DefineProperty", ref(o), text(lent(c)), ref(d)).is(t, h, 6+4+1, true, nil)
	ask("Assign", ref(o), text(lent(s))).is(t, h, 1+2*5+1, ref(o), nil)
	n, err := mirror.Object(h, text(lent(s)))
	made(t, n, err)
	for _, x := range []act{ask("Has", ref(o), text(lent(a))), ask("HasOwn", text(lent(s)), text(lent(a))), ask("Descriptor", ref(o), text(lent(a))), ask("Get", ref(o), text(lent(a)), text(lent(b))), ask("Keys", text(lent(s))), ask("Values", text(lent(s))), ask("Entries", text(lent(s))), ask("Names", text(lent(s))), ask("Descriptors", text(lent(s)))} {
		if _, err := x.played(h); err != nil {
			t.Errorf("%v: %v", x, err)
		}
	}
	before := h.Shapes()
	if string(a) != "a key" || string(b) != "a value" || string(c) != "another" || string(s) != "ab" {
		t.Errorf("R4: %q, %q, %q, %q", a, b, c, s)
	}
	for _, bytes := range [][]byte{a, b, c, s} {
		spoil(bytes)
	}
	looks(t, h, o, bare(has("a key", text("a value")), has("another", text("of d")), has("0", text("a")), has("1", text("b"))))
	if s, e := strobj.Data(h, n); s != "ab" || e != api.OK {
		t.Errorf("R4: %q, %v", s, e)
	}
	if !sameShapes(before, h.Shapes()) {
		t.Errorf("R4: %v became %v", before, h.Shapes())
	}
}

// The list of sources is neither changed nor kept, nor is what lies behind its end.
func TestSourcesAreTheCallers(t *testing.T) {
	h := newHeap(t, 60, 1000, 9)
	o, a, b := object(t, h, null()), object(t, h, null(), has("a", num(1))), object(t, h, null(), has("b", num(2)))
	l := []api.Value{ref(a), null(), text("x"), ref(b), ref(a), ref(b)}
	was := slices.Clone(l)
	if v, err := mirror.Assign(h, ref(o), l[:4]); v != ref(o) || err != nil || !slices.Equal(l, was) {
		t.Errorf("R4: %v, %v, %v", v, err, l)
	}
	for i := range l {
		l[i] = num(9)
	}
	looks(t, h, o, bare(has("a", num(1)), has("0", text("x")), has("b", num(2))))
	for _, none := range [][]api.Value{nil, {}, l[:0]} {
		if v, err := mirror.Assign(h, ref(o), none); v != ref(o) || err != nil {
			t.Errorf("22.7: %v, %v", v, err)
		}
	}
	looks(t, h, o, bare(has("a", num(1)), has("0", text("x")), has("b", num(2))))
}

// What a function is given is its own, not what lies in the list, nor what another call is given.
func TestArgumentsAreTheFunctions(t *testing.T) {
	h := newHeap(t, 60, 1000, 9)
	var given [][]api.Value
	f := addNative(t, h, func(_ api.Value, l []api.Value) (api.Value, error) {
		given = append(given, l)
		return undefined(), nil
	})
	l := object(t, h, null(), has("length", num(2)), has("0", text("first")), has("1", text("second")))
	for range 2 {
		ask("Apply", ref(f), null(), ref(l)).is(t, h, 4, undefined(), nil)
	}
	if !apart(given[0][0].Str, given[1][0].Str) {
		t.Errorf("R4: %v", given)
	}
	spoilString(given[0][0].Str)
	given[0][1] = num(9)
	if !sameValues(given[1], []api.Value{text("first"), text("second")}) {
		t.Errorf("R4: %v", given)
	}
	looks(t, h, l, bare(has("length", num(2)), has("0", text("first")), has("1", text("second"))))
}

// Each array and object that is answered is a new one, and what lies in it is nobody else's: what is done to it is done to nothing else.
func TestObjectsAreNew(t *testing.T) {
	h := newHeap(t, 200, 100000, 9)
	o := object(t, h, null(), has("a", text("some words")), marked(3, data(num(1), "wec")), is("b", accessor(undefined(), undefined(), "e")))
	was := shapeOf(t, h, o)
	for _, x := range []act{ask("Keys", ref(o)), ask("Values", ref(o)), ask("Entries", ref(o)), ask("Names", ref(o)), ask("Symbols", ref(o)), ask("OwnKeys", ref(o)), ask("Descriptors", ref(o)), ask("Descriptor", ref(o), text("a")), ask("Create", ref(o), undefined()), ask("Assign", num(1), ref(o)), ask("Object", num(1)), ask("Object", text("a"))} {
		if _, err := x.played(h); err != nil {
			t.Fatal(err)
		}
		first := h.Len()
		if _, err := x.played(h); err != nil || h.Len() == first {
			t.Fatalf("%v: %v: nothing new", x, err)
		}
		second := shapeOf(t, h, h.Len())
		for _, p := range shapeOf(t, h, first).Props {
			heap.Ordinary{}.DefineOwnProperty(h, first, p.Key, api.Desc{Value: num(99)})
		}
		heap.Ordinary{}.PreventExtensions(h, first)
		looks(t, h, h.Len(), second)
		looks(t, h, o, was)
	}
}

// What is thrown is the catcher's.
func TestThrowsAreTheCallers(t *testing.T) {
	w := newWorld(t, 1<<20, 9)
	revoked, f, long := w.revoked(w.n["one"]), w.n["class"], object(t, w.h, null(), marked(api.SymToStringTag, data(text(strings.Repeat("x", api.MaxStr)), "")))
	for _, x := range []act{
		ask("Object", null()), ask("IsArray", ref(revoked)), ask("Tag", ref(revoked)), ask("Tag", ref(long)), ask("Apply", null(), null(), null()), ask("Construct", ref(f), null(), null()),
		ask("Get", null(), null(), null()), ask("SetPrototypeOf", ref(f), num(1)), ask("Create", num(1), null()), ask("DefineProperties", ref(f), null()), ask("DefineProperties", ref(w.n["frozen"]), ref(object(t, w.h, null(), has("new", ref(1))))), ask("Assign", ref(w.n["frozen"]), text("a")), ask("Keys", undefined()),
	} {
		want := api.Thrown{Kind: api.XType}
		if x.v[0] == ref(long) {
			want.Kind = api.XRange
		}
		for range 3 {
			_, err := x.played(w.h)
			var y *api.Thrown
			if !errors.As(err, &y) || *y != want {
				t.Fatalf("R4: %v: %v", x, err)
			}
			y.Kind, y.Value = api.XSyntax, num(1)
		}
	}
}

// Two heaps know nothing of each other.
func TestHeapsAreApart(t *testing.T) {
	one, two := newHeap(t, 9, 100, 5), newHeap(t, 9, 200, 5)
	for range 2 {
		object(t, one, null(), has("a", num(1)))
		object(t, two, null(), has("a", num(2)))
	}
	ask("Set", ref(1), text("a"), num(5), ref(1)).is(t, one, 3, true, nil)
	ask("Values", ref(1)).adds(t, one, 3, ref(3), nil, listed(num(5)))
	ask("Values", ref(1)).adds(t, two, 3, ref(3), nil, listed(num(2)))
	if one.Fuel() != 94 || two.Fuel() != 197 {
		t.Errorf("%d, %d", one.Fuel(), two.Fuel())
	}
}
