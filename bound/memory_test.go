package bound_test

// What is handed in is neither changed nor kept, and what is handed out is new memory (R4).

import (
	"slices"
	"testing"
	"unsafe"

	"cameo/api"
	"cameo/bound"
)

// spoil writes over a list, and over the room behind its end.
func spoil[T any](l []T, x T) {
	for i := range l[:cap(l)] {
		l[:cap(l)][i] = x
	}
}

// word is a string that is nobody else's memory; spoilWord writes over it.
func word() string { return string([]byte("some word")) }

func spoilWord(s string) { spoil(unsafe.Slice(unsafe.StringData(s), len(s)), 'z') }

// apart tells whether no two strings are one memory.
func apart(l ...string) bool {
	for i, s := range l {
		if slices.ContainsFunc(l[:i], func(x string) bool { return unsafe.StringData(s) == unsafe.StringData(x) }) {
			return false
		}
	}
	return true
}

// 18.4: the arguments are the caller's, the room behind their end, too.
func TestListsAreTheCallers(t *testing.T) {
	h := newHeap(t, 9, 1000, 9)
	f := fn(t, h)
	room := []api.Value{num(1), text("x"), ref(1), num(4), num(5)}
	copied := slices.Clone(room)
	l := room[:3]
	one, two := bind(t, h, f, null(), l[:2]...), bind(t, h, f, null(), l...)
	if !slices.Equal(room, copied) {
		t.Errorf("R4: what was handed in is %v", room)
	}
	spoil(l, num(99))
	targetOf(one).is(t, h, 0, binding{f, null(), copied[:2]}, nil)
	targetOf(two).is(t, h, 0, binding{f, null(), copied[:3]}, nil)
}

// 18.4: what Target tells is the caller's.
func TestAnswersAreTheCallers(t *testing.T) {
	for n := range 20 {
		h := newHeap(t, 9, 1000, 9)
		f := fn(t, h)
		b := bind(t, h, f, num(7), values(0, n)...)
		want := binding{f, num(7), values(0, n)}
		if n == 0 {
			want.args = nil
		}
		_, _, l, _ := bound.Target(h, b)
		_, _, again, _ := bound.Target(h, b)
		spoil(l, num(99))
		if !slices.Equal(again, values(0, n)) {
			t.Errorf("R4: %v", again)
		}
		targetOf(b).is(t, h, 0, want, nil)
		// What is bound by an answer is not that answer.
		other := bind(t, h, f, num(7), again...)
		spoil(again, num(99))
		targetOf(other).is(t, h, 0, want, nil)
		targetOf(b).is(t, h, 0, want, nil)
	}
}

// 18.4: strings are the caller's, on both ways.
func TestStringsAreTheCallers(t *testing.T) {
	h := newHeap(t, 9, 1000, 9)
	f := fn(t, h, api.Op{Code: api.OArg}, api.Op{Code: api.OReturn})
	this, first, second, name := word(), word(), word(), word()
	lay(t, h, f, has("name", text(name)))
	b := bind(t, h, f, text(this), text(first), text(second))
	all := []string{this, first, second}
	for range 2 {
		_, v, l, _ := bound.Target(h, b)
		all = append(all, v.Str, l[0].Str, l[1].Str)
	}
	if !apart(all...) || slices.ContainsFunc(all, func(s string) bool { return s != word() }) {
		t.Errorf("R4: %q", all)
	}
	for _, s := range all {
		spoilWord(s)
	}
	targetOf(b).is(t, h, 0, binding{f, text(word()), []api.Value{text(word()), text(word())}}, nil)
	calls(b, null()).is(t, h, 4, text(word()), nil)
	looks(t, h, b, boundShape(null(), told("length", num(0)), told("name", text("bound "+word()))))
}

// 18.1, 18.2: a function may do with its arguments what it likes: neither what is bound nor what the caller has becomes another one.
func TestArgumentsAreTheCallers(t *testing.T) {
	h := newHeap(t, 20, 1000, 9)
	var seen []api.Value
	f := addNative(t, h, func(_ api.Value, l []api.Value) (api.Value, error) {
		seen = slices.Clone(l)
		spoil(l, text("junk"))
		return ref(1), nil
	})
	for n := range 6 {
		b := bind(t, h, f, null(), values(0, n)...)
		twice := bind(t, h, b, null(), num(50))
		for range 2 {
			// Without arguments of the caller's own, what was bound is not handed on itself.
			calls(b, null()).is(t, h, 2, ref(1), nil)
			constructs(b, b).is(t, h, 2, 1, nil)
			if !slices.Equal(seen, values(0, n)) {
				t.Errorf("R4: called with %v", seen)
			}
			room := append(values(60, 3), values(90, 4)...)
			copied := slices.Clone(room)
			calls(b, null(), room[:3]...).is(t, h, 2, ref(1), nil)
			constructs(b, b, room[:3]...).is(t, h, 2, 1, nil)
			if want := slices.Concat(values(0, n), copied[:3]); !slices.Equal(seen, want) || !slices.Equal(room, copied) {
				t.Errorf("R4: called with %v, and %v is left", seen, room)
			}
			calls(twice, null(), room[:3]...).is(t, h, 3, ref(1), nil)
			constructs(twice, twice, room[:3]...).is(t, h, 3, 1, nil)
			if want := slices.Concat(values(0, n), values(50, 1), copied[:3]); !slices.Equal(seen, want) || !slices.Equal(room, copied) {
				t.Errorf("R4: called with %v, and %v is left", seen, room)
			}
		}
		if _, _, l, e := bound.Target(h, b); !slices.Equal(l, values(0, n)) || e != api.OK {
			t.Errorf("R4: %v, %v", l, e)
		}
	}
}

// 18.5: what a method does with its arguments is no matter of the next call.
func TestArgumentsOfAMethod(t *testing.T) {
	h := newHeap(t, 9, 1000, 9)
	o := made(t, h, null())
	f := addNative(t, h, func(_ api.Value, l []api.Value) (api.Value, error) {
		same := len(l) == 1 && l[0] == num(7)
		spoil(l, text("junk"))
		return api.Value{Kind: api.KBool, Bool: same}, nil
	})
	lay(t, h, o, hasInstance(ref(f)))
	for range 3 {
		isInstance(num(7), ref(o)).is(t, h, 2, true, nil)
	}
}

// What is thrown is new each time: who changes it changes nothing else.
func TestThrowsAreTheCallers(t *testing.T) {
	h := newHeap(t, 20, 1000, 9)
	o, f, g := made(t, h, null()), fn(t, h), fn(t, h)
	lay(t, h, f, has("name", text(tooLong[1:])))
	for range 2 {
		for _, x := range []struct {
			act  act
			kind int
		}{{binds(f, null()), api.XRange}, {isInstance(ref(o), num(1)), api.XType}, {isInstance(ref(o), ref(o)), api.XType}, {isInstance(ref(o), ref(g)), api.XType}, {asInstance(ref(g), ref(o)), api.XType}} {
			_, err := x.act.played(h)
			thrown, ok := err.(*api.Thrown)
			if !ok || *thrown != (api.Thrown{Kind: x.kind}) {
				t.Fatalf("%s: %v", x.act.name, err)
			}
			*thrown = api.Thrown{Kind: 99, Value: text("junk")}
		}
	}
}

// Two heaps know nothing of each other.
func TestHeapsAreApart(t *testing.T) {
	a, b := newHeap(t, 2, 20, 5), newHeap(t, 2, 20, 5)
	f, g := giving(t, a, num(1)), giving(t, b, num(2))
	binds(f, null(), num(1)).is(t, a, 3, 2, nil)
	binds(g, num(5)).is(t, b, 3, 2, nil)
	calls(2, null()).is(t, a, 4, num(1), nil)
	calls(2, null()).is(t, b, 4, num(2), nil)
	targetOf(2).is(t, a, 0, binding{f, null(), values(1, 1)}, nil)
	targetOf(2).is(t, b, 0, binding{g, num(5), nil}, nil)
	if a.Fuel() != 13 || b.Fuel() != 13 {
		t.Errorf("%d, %d", a.Fuel(), b.Fuel())
	}
}
