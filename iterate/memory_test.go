package iterate_test

// What is handed in is neither changed nor kept, and what is handed out is new memory (R4).

import (
	"errors"
	"slices"
	"strings"
	"testing"
	"unsafe"

	"cameo/api"
	"cameo/array"
	"cameo/heap"
	"cameo/iterate"
)

// lent is a string that lies in bytes of the caller's.
func lent(bytes []byte) string { return unsafe.String(&bytes[0], len(bytes)) }

// spoilString writes over the bytes that a string lies in.
func spoilString(s string) {
	bytes := unsafe.Slice(unsafe.StringData(s), len(s))
	for i := range bytes {
		bytes[i] = 'z'
	}
}

// apart tells whether two strings that are the same lie in memory of their own.
func apart(a, b string) bool { return a == b && unsafe.StringData(a) != unsafe.StringData(b) }

// Result keeps a string of its own.
func TestResultKeepsNothing(t *testing.T) {
	h := newHeap(t, 9, 100, 9)
	bytes := []byte("some words")
	n, err := iterate.Result(h, text(lent(bytes)), false)
	made(t, n, err)
	if string(bytes) != "some words" {
		t.Errorf("R4: %q", bytes)
	}
	spoilString(lent(bytes))
	looks(t, h, n, result(text("some words"), no()))
	// What is done to one result is done to no other one.
	m, err := iterate.Result(h, text("other"), true)
	made(t, m, err)
	h.Set(n, str("value"), num(1), ref(n))
	h.Delete(n, str("done"))
	looks(t, h, m, result(text("other"), yes()))
	looks(t, h, n, bare(has("value", num(1))))
}

// keepers is a heap with an iterator of a program that answers the same strings again and again: they are kept by its functions.
func keepers(t *testing.T, kept *api.Value) (*heap.Heap, api.Value) {
	t.Helper()
	h := newHeap(t, 60, 1<<20, 9)
	done := 0
	value := addNative(t, h, func(api.Value, []api.Value) (api.Value, error) { return *kept, nil })
	over := addNative(t, h, func(api.Value, []api.Value) (api.Value, error) {
		done++
		return api.Value{Kind: api.KBool, Bool: done%4 == 0}, nil
	})
	r := object(t, h, null(), got("value", value), got("done", over))
	it := object(t, h, null(), has("next", ref(giving(t, h, ref(r)))))
	return h, ref(object(t, h, null(), marked(api.SymIterator, data(ref(giving(t, h, ref(it))), ""))))
}

// The values of a list, and that of a step, are the caller's, each one.
func TestValuesAreTheCallers(t *testing.T) {
	kept := text("kept by a function")
	h, of := keepers(t, &kept)
	list := func() []api.Value {
		l, err := iterate.List(h, of)
		if err != nil || len(l) != 3 || cap(l) > 0 && len(l[:cap(l)]) < 3 {
			t.Fatalf("23.7: %v, %v", l, err)
		}
		return l
	}
	one, two := list(), list()
	for i := range one {
		for _, v := range slices.Concat(two, one[:i], []api.Value{kept}) {
			if !apart(one[i].Str, v.Str) {
				t.Errorf("R4: %q and %q are one", one[i].Str, v.Str)
			}
		}
	}
	for i := range one {
		spoilString(one[i].Str)
	}
	for i := range one[:cap(one)] {
		one[:cap(one)][i] = num(9)
	}
	three := list()
	for _, v := range slices.Concat(two, three, []api.Value{kept}) {
		if v != text("kept by a function") {
			t.Errorf("R4: %v", v)
		}
	}
	it, err := iterate.Get(h, of)
	if err != nil {
		t.Fatal(err)
	}
	for range 3 {
		a, over, err := iterate.Step(h, it)
		if a.Str != "kept by a function" || over || err != nil || !apart(a.Str, kept.Str) {
			t.Fatalf("R4: %v, %v, %v", a, over, err)
		}
		spoilString(a.Str)
	}
	if kept.Str != "kept by a function" {
		t.Errorf("R4: %v", kept)
	}
}

// What Get finds as next may be a string: it is the caller's, too.
func TestNextIsTheCallers(t *testing.T) {
	h := newHeap(t, 60, 1000, 9)
	kept := text("no function")
	it := object(t, h, null(), got("next", addNative(t, h, func(api.Value, []api.Value) (api.Value, error) { return kept, nil })))
	of := ref(object(t, h, null(), marked(api.SymIterator, data(ref(giving(t, h, ref(it))), ""))))
	one, err := iterate.Get(h, of)
	two, also := iterate.Get(h, of)
	if err != nil || also != nil || !apart(one.Next.Str, two.Next.Str) || !apart(one.Next.Str, kept.Str) {
		t.Errorf("R4: %v, %v, %v, %v", one, err, two, also)
	}
	spoilString(one.Next.Str)
	if kept.Str != "no function" || two.Next.Str != "no function" {
		t.Errorf("R4: %v, %v", kept, two)
	}
	// What is handed in as next is not kept, nor changed.
	bytes := []byte("no function")
	x := api.Iterator{Object: it, Next: text(lent(bytes))}
	if _, _, err := iterate.Step(h, x); !sameError(err, typeError()) {
		t.Errorf("23.5: %v", err)
	}
	if err := iterate.Close(h, x, nil); err != nil || string(bytes) != "no function" {
		t.Errorf("R4: %v, %q", err, bytes)
	}
}

// The keys of a for-in loop are the caller's, with what lies behind their end.
func TestNamesAreTheCallers(t *testing.T) {
	h := newHeap(t, 60, 1000, 9)
	object(t, h, null(), has("above", num(1)), has("some word", num(2)))
	o := object(t, h, ref(1), has("some word", num(1)), has("7", num(1)))
	one, err := iterate.ForIn(h, ref(o))
	two, also := iterate.ForIn(h, ref(o))
	want := []api.Key{str("7"), str("some word"), str("above")}
	if err != nil || also != nil || !slices.Equal(one, want) || !slices.Equal(two, want) {
		t.Fatalf("23.9: %v, %v, %v, %v", one, err, two, also)
	}
	own, err := h.OwnPropertyKeys(o)
	if err != nil {
		t.Fatal(err)
	}
	for i := range one {
		for _, k := range slices.Concat(two, own) {
			if k == one[i] && !apart(k.Str, one[i].Str) {
				t.Errorf("R4: %q is not new", k.Str)
			}
		}
	}
	for _, k := range one {
		spoilString(k.Str)
	}
	for i := range one[:cap(one)] {
		one[:cap(one)][i] = sym(9)
	}
	three, err := iterate.ForIn(h, ref(o))
	if err != nil || !slices.Equal(two, want) || !slices.Equal(three, want) {
		t.Errorf("R4: %v, %v, %v", two, three, err)
	}
	looks(t, h, o, of(api.COrdinary, ref(1), has("some word", num(1)), has("7", num(1))))
}

// What a loop's function is given is its own: another call of it is given another string, and another list.
func TestArgumentsAreTheFunctions(t *testing.T) {
	kept := text("kept by a function")
	h, of := keepers(t, &kept)
	var given [][]api.Value
	f := addNative(t, h, func(_ api.Value, l []api.Value) (api.Value, error) {
		given = append(given, l)
		if len(given) == 1 {
			spoilString(l[0].Str)
			l[0] = num(9)
			for i := range l[:cap(l)] {
				l[:cap(l)][i] = num(9)
			}
		}
		return undefined(), nil
	})
	if n, err := iterate.ForOf(h, of, ref(f)); n != 3 || err != nil || len(given) != 3 {
		t.Fatalf("23.8: %d, %v", n, err)
	}
	for _, l := range given[1:] {
		if !sameValues(l, []api.Value{text("kept by a function")}) || !apart(l[0].Str, kept.Str) {
			t.Errorf("R4: %v", l)
		}
	}
	if kept.Str != "kept by a function" {
		t.Errorf("R4: %v", kept)
	}
}

// An array iterator that is asked tells what is its own: the members, and what it made of them, are the object's no more.
func TestResultsAreNew(t *testing.T) {
	for _, kind := range kinds() {
		m := newMidst(t, kind)
		o := m.array(text("some words"), text("others"))
		was := shapeOf(t, m.h, o)
		it, other := m.iterator(o), m.iterator(o)
		for range 2 {
			r, err := m.h.Call(m.next, it, nil)
			if err != nil {
				t.Fatal(err)
			}
			first := m.h.Len()
			for n := r.Id; n >= r.Id-1 && n > other.Id; n-- { // the result, and the pair that may lie ahead of it
				for _, p := range shapeOf(t, m.h, n).Props {
					heap.Ordinary{}.DefineOwnProperty(m.h, n, p.Key, api.Desc{Value: num(99)})
				}
			}
			again, err := m.h.Call(m.next, other, nil)
			if err != nil || again.Id <= first {
				t.Fatalf("%v, %v", again, err)
			}
			looks(t, m.h, o, was)
			if s := shapeOf(t, m.h, again.Id); sameValue(s.Props[0].Desc.Value, num(99)) {
				t.Errorf("R4: %v", s)
			}
		}
	}
}

// What is thrown is the catcher's: each time another one. What was thrown in a loop is handed back as it is.
func TestThrowsAreTheCallers(t *testing.T) {
	m := newMidst(t, api.IValues)
	o := object(t, m.h, null(), marked(api.SymIterator, data(ref(giving(t, m.h, num(1))), "")))
	it := object(t, m.h, null(), has("return", ref(giving(t, m.h, num(1)))), has("next", ref(giving(t, m.h, num(1)))))
	n, err := array.New(m.h, null(), 1)
	made(t, n, err)
	for _, x := range []act{
		ask("Get", num(1)), ask("Get", ref(1)), ask("Get", ref(o)), ask("List", ref(o)), ask("ForOf", ref(1), ref(1)), steps(1, null()), steps(it, ref(giving(t, m.h, num(1)))), closes(it, null(), nil), closes(o, null(), nil),
		ask("Call", ref(m.next), null()), ask("Call", ref(m.next), ref(1)), ask("Call", ref(m.maker), num(1)),
	} {
		if x.name == "Close" && x.n == o {
			lay(t, m.h, o, has("return", num(1)))
		}
		for range 3 {
			_, err := x.played(m.h)
			var y *api.Thrown
			if !errors.As(err, &y) || *y != (api.Thrown{Kind: api.XType}) {
				t.Fatalf("R4: %v: %v", x, err)
			}
			y.Kind, y.Value = api.XSyntax, num(1)
		}
	}
	cause := &api.Thrown{Kind: api.XValue, Value: text("cause")}
	if err := iterate.Close(m.h, api.Iterator{Object: it, Next: null()}, cause); err != cause || *cause != (api.Thrown{Kind: api.XValue, Value: text("cause")}) {
		t.Errorf("23.6: %v, %v", err, cause)
	}
}

// Two heaps know nothing of each other.
func TestHeapsAreApart(t *testing.T) {
	one, two := newMidst(t, api.IValues), newMidst(t, api.IValues)
	a, b := one.array(num(1), num(2)), two.array(num(3), num(4))
	if a != b {
		t.Fatal(a, b)
	}
	it, other := one.iterator(a), two.iterator(b)
	one.tells(it, num(1), num(2))
	one.over(it)
	two.tells(other, num(3))
	two.long(b, 1)
	two.over(other)
	names, err := iterate.ForIn(one.h, ref(a))
	if err != nil || strings.Join([]string{names[0].Str, names[1].Str}, " ") != "0 1" || two.h.Fuel() == one.h.Fuel() {
		t.Errorf("%v, %v", names, err)
	}
}
