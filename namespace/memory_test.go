package namespace_test

// What is handed in is neither changed nor kept, and what is handed out is new memory (R4).

import (
	"errors"
	"slices"
	"testing"
	"unsafe"

	"cameo/api"
	"cameo/heap"
	"cameo/namespace"
)

// spoil writes over a list, and over the room behind its end.
func spoil[T any](l []T, x T) {
	for i := range l[:cap(l)] {
		l[:cap(l)][i] = x
	}
}

// lent is a string that lies in bytes of the caller's.
func lent(bytes []byte) string { return unsafe.String(&bytes[0], len(bytes)) }

func spoilWord(s string) { spoil(unsafe.Slice(unsafe.StringData(s), len(s)), 'z') }

// apart tells whether no two strings are one memory.
func apart(l ...string) bool {
	for i, s := range l {
		if slices.ContainsFunc(l[:i], func(x string) bool { return unsafe.StringData(s) == unsafe.StringData(x) }) {
			return false
		}
	}
	return true
}

// 20.8: the names are the caller's, and stay in the order in which they were handed in, what lies behind them, too.
func TestNamesAreTheCallers(t *testing.T) {
	one, two, three := []byte("second"), []byte("first"), []byte("third\u20ac")
	room := []string{lent(one), lent(three), lent(two), "behind", "it"}
	h := newHeap(t, 2, 100, 5)
	of(t, h, room[:3]...)
	of(t, h, room[:3]...)
	if want := []string{"second", "third\u20ac", "first", "behind", "it"}; !slices.Equal(room, want) {
		t.Errorf("R4: what was handed in is %q", room)
	}
	spoil(one, 'z')
	spoil(two, 'a')
	spoil(three, 'm')
	spoil(room, "junk")
	want := []string{"first", "second", "third\u20ac"}
	for o := 1; o <= 2; o++ {
		exports(t, h, o, fact{want, make([]api.Value, 3)})
		for _, s := range want {
			hasProp(o, str(s)).is(t, h, 1, true, nil)
			bind(t, h, o, s, num(1))
		}
		keysOf(o).is(t, h, 1, []api.Key{str("first"), str("second"), str("third\u20ac"), tag()}, nil)
	}
}

// 20.9: so are the name and the value of Bind.
func TestBoundIsTheCallers(t *testing.T) {
	h := newHeap(t, 1, 100, 5)
	of(t, h, "some word", "another")
	name, word := []byte("some word"), []byte("a value")
	bind(t, h, 1, lent(name), text(lent(word)))
	if string(name) != "some word" || string(word) != "a value" {
		t.Errorf("R4: what was handed in is %q, %q", name, word)
	}
	spoil(name, 'z')
	spoil(word, 'z')
	exports(t, h, 1, fact{[]string{"another", "some word"}, []api.Value{{}, text("a value")}})
	gets(1, str("some word"), null()).is(t, h, 1, text("a value"), nil)
}

// kept is a heap with a namespace of two exports, of which one is bound to a string.
func kept(t *testing.T) *heap.Heap {
	t.Helper()
	h := newHeap(t, 1, 1000, 5)
	of(t, h, "some word", "another")
	bind(t, h, 1, "some word", text(string([]byte("a value"))))
	return h
}

// stands holds that what is kept is what it was.
func stands(t *testing.T, h *heap.Heap) {
	t.Helper()
	exports(t, h, 1, fact{[]string{"another", "some word"}, []api.Value{{}, text("a value")}})
	keysOf(1).is(t, h, 1, []api.Key{str("another"), str("some word"), tag()}, nil)
	gets(1, str("some word"), null()).is(t, h, 1, text("a value"), nil)
	getOwn(1, str("some word")).is(t, h, 2, told(data(text("a value"), "we")), nil)
	gets(1, str("another"), null()).is(t, h, 1, nil, referenceError())
}

// 20.9: each answer of Exports is lists of its own, with strings of their own.
func TestExportsAreTheCallers(t *testing.T) {
	h := kept(t)
	names, values, _ := namespace.Exports(h, 1)
	more, others, _ := namespace.Exports(h, 1)
	if !apart(names[0], names[1], more[0], more[1], values[1].Str, others[1].Str) {
		t.Error("R4: a string is handed out twice")
	}
	for _, s := range []string{names[0], names[1], values[1].Str} {
		spoilWord(s)
	}
	spoil(names, "junk")
	spoil(values, num(5))
	if !slices.Equal(more, []string{"another", "some word"}) || !slices.Equal(others, []api.Value{{}, text("a value")}) {
		t.Errorf("R4: %q, %v", more, others)
	}
	stands(t, h)
}

// 20.7: so are keys.
func TestKeysAreTheCallers(t *testing.T) {
	h := kept(t)
	one, _ := h.OwnPropertyKeys(1)
	two, _ := h.OwnPropertyKeys(1)
	if !apart(one[0].Str, one[1].Str, two[0].Str, two[1].Str) {
		t.Error("R4: a string is handed out twice")
	}
	spoilWord(one[0].Str)
	spoilWord(one[1].Str)
	spoil(one, str("junk"))
	if !slices.Equal(two, []api.Key{str("another"), str("some word"), tag()}) {
		t.Errorf("R4: %v", two)
	}
	stands(t, h)
}

// What is told of a namespace without exports is lists of their own, too.
func TestNothingIsTheCallers(t *testing.T) {
	h := newHeap(t, 1, 100, 5)
	of(t, h)
	for range 3 {
		l, _ := h.OwnPropertyKeys(1)
		if !slices.Equal(l, []api.Key{tag()}) {
			t.Errorf("R4: %v", l)
		}
		spoil(l, str("junk"))
		names, values, _ := namespace.Exports(h, 1)
		spoil(names, "junk")
		spoil(values, num(1))
	}
}

// 20.2, 20.5: so are the strings that exports are bound to, each time that they are told.
func TestValuesAreTheCallers(t *testing.T) {
	h := kept(t)
	var l []string
	for range 2 {
		v, _ := h.Get(1, str("some word"), null())
		d, _, _ := h.GetOwnProperty(1, str("some word"))
		_, values, _ := namespace.Exports(h, 1)
		l = append(l, v.Str, d.Value.Str, values[1].Str)
	}
	if !apart(l...) {
		t.Error("R4: a string is handed out twice")
	}
	for _, s := range l {
		spoilWord(s)
		stands(t, h)
	}
}

// What is thrown is the catcher's.
func TestThrowsAreTheCallers(t *testing.T) {
	h := kept(t)
	for range 3 {
		_, err := h.Get(1, str("another"), null())
		var x *api.Thrown
		if !errors.As(err, &x) || x.Kind != api.XReference {
			t.Fatalf("R4: %v", err)
		}
		x.Kind, x.Value = api.XType, num(1)
	}
	stands(t, h)
}

// Shapes are the caller's, too.
func TestShapesAreTheCallers(t *testing.T) {
	h := kept(t)
	s, _ := h.Shape(1)
	spoil(s.Props, api.Prop{Key: str("junk"), Desc: data(num(1), "wec")})
	spoil(h.Shapes()[0].Props, api.Prop{Key: str("junk"), Desc: data(num(1), "wec")})
	getOwn(1, tag()).is(t, h, 1, told(data(text("Module"), "")), nil)
	if s, _ := h.Shape(1); !sameShape(s, namespaceShape()) {
		t.Errorf("R4: %v", s)
	}
	stands(t, h)
}

// Two heaps know nothing of each other, nor do two namespaces of the same names.
func TestNamespacesAreApart(t *testing.T) {
	names := []string{"a", "b"}
	one, two := newHeap(t, 2, 10, 5), newHeap(t, 1, 20, 5)
	of(t, one, names...)
	of(t, one, names...)
	of(t, two, names...)
	bind(t, one, 1, "a", num(1))
	bind(t, one, 2, "b", num(2))
	bind(t, two, 1, "a", num(3))
	exports(t, one, 1, fact{names, []api.Value{num(1), {}}})
	exports(t, one, 2, fact{names, []api.Value{{}, num(2)}})
	exports(t, two, 1, fact{names, []api.Value{num(3), {}}})
	gets(1, str("a"), null()).is(t, one, 1, num(1), nil)
	if one.Fuel() != 9 || two.Fuel() != 20 {
		t.Errorf("%d, %d", one.Fuel(), two.Fuel())
	}
}
