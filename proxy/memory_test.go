package proxy_test

// What is handed in is neither changed nor kept, and what is handed out is new memory (R4).

import (
	"slices"
	"testing"
	"unsafe"

	"cameo/api"
	"cameo/array"
	"cameo/proxy"
)

// spoil writes over a list, and over the room behind its end.
func spoil[T any](l []T, x T) {
	for i := range l[:cap(l)] {
		l[:cap(l)][i] = x
	}
}

// word is a string that is nobody else's memory; spoilWord writes over it.
func word() string { return string([]byte("some word")) }

func spoilWord(s string) { spoil(unsafe.Slice(unsafe.StringData(s), len(s)), 'z') }

// apart tells whether no two strings are one memory.
func apart(l ...string) bool {
	for i, s := range l {
		if slices.ContainsFunc(l[:i], func(x string) bool { return unsafe.StringData(s) == unsafe.StringData(x) }) {
			return false
		}
	}
	return true
}

// 19.12: the names are the caller's.
func TestTrapsAreTheCallers(t *testing.T) {
	want := slices.Clone(proxy.Traps())
	one, two := proxy.Traps(), proxy.Traps()
	if !apart(slices.Concat(one, two)...) {
		t.Error("R4: two answers share strings")
	}
	for _, s := range one {
		spoilWord(s)
	}
	spoil(one, "junk")
	if !slices.Equal(two, want) || !slices.Equal(proxy.Traps(), want) {
		t.Errorf("R4: %q, %q", two, proxy.Traps())
	}
	// The traps are still found.
	h := newHeap(t, 9, 100, 9)
	p := of(t, h, ordinary(t, h, null()), ordinary(t, h, null(), has("get", ref(giving(t, h, num(2))))))
	gets(p, str("a"), null()).is(t, h, 6, num(2), nil)
}

// 19.10: the keys are the caller's, their strings, too.
func TestKeysAreTheCallers(t *testing.T) {
	h := newHeap(t, 9, 1000, 9)
	first, second := word(), word()+"s"
	list, err := array.Of(h, null(), texts(first, second, "c"))
	made(t, list, err)
	target := ordinary(t, h, null(), has("a", num(1)))
	p := of(t, h, target, ordinary(t, h, null(), has("ownKeys", ref(giving(t, h, ref(list))))))
	for range 2 {
		one, _ := h.OwnPropertyKeys(p)
		two, _ := h.OwnPropertyKeys(p)
		if !apart(first, second, one[0].Str, one[1].Str, two[0].Str, two[1].Str) {
			t.Error("R4: keys share strings")
		}
		spoilWord(one[0].Str)
		spoil(one, str("junk"))
		if want := keyList(word(), word()+"s", "c"); !slices.Equal(two, want) {
			t.Errorf("R4: %v", two)
		}
	}
	keysOf(p).is(t, h, 1+1+3+4+3, keyList(word(), word()+"s", "c"), nil)
	if l, _ := array.Values(h, list, 9); !slices.Equal(l, texts(word(), word()+"s", "c")) {
		t.Errorf("R4: %v", l)
	}
}

// 19.11: a trap's array is no list of the caller's, and what it does with its own list of arguments is no matter of anybody's.
func TestArgumentsAreTheCallers(t *testing.T) {
	h := newHeap(t, 60, 1000, 9)
	var lists []int
	trap := addNative(t, h, func(_ api.Value, l []api.Value) (api.Value, error) {
		for _, v := range l {
			if _, e := array.Length(h, v.Id); v.Kind == api.KRef && e == api.OK {
				lists = append(lists, v.Id)
				h.Set(v.Id, str("0"), text("other"), v)
				h.Set(v.Id, str("5"), text("more"), v)
			}
		}
		spoil(l, text("junk"))
		return ref(1), nil
	})
	p := of(t, h, trap, ordinary(t, h, null(), has("apply", ref(trap)), has("construct", ref(trap))))
	for n := range 4 {
		room := append(values(60, n), values(90, 4)...)
		copied := slices.Clone(room)
		if v, err := h.Call(p, null(), room[:n]); v != ref(1) || err != nil {
			t.Errorf("%v, %v", v, err)
		}
		if o, err := h.Construct(p, room[:n], p); o != 1 || err != nil {
			t.Errorf("%v, %v", o, err)
		}
		if !slices.Equal(room, copied) {
			t.Errorf("R4: what was handed in is %v", room)
		}
		if len(lists) != 2*n+2 || lists[2*n] == lists[2*n+1] {
			t.Errorf("19.11: %v", lists)
		}
	}
}

// 19.11: what a list has that was handed in is not what an array has: who changes the one does not change the other.
func TestArraysAreTheirOwn(t *testing.T) {
	h := newHeap(t, 60, 1000, 9)
	trap := fn(t, h, api.Op{Code: api.OArg, A: 2}, api.Op{Code: api.OReturn})
	p := of(t, h, trap, ordinary(t, h, null(), has("apply", ref(trap))))
	s := word()
	l := []api.Value{text(s), num(1), ref(1)}
	v, err := h.Call(p, null(), l)
	if err != nil {
		t.Fatal(err)
	}
	spoilWord(s)
	spoil(l, num(99))
	if got, _ := array.Values(h, v.Id, 9); !slices.Equal(got, []api.Value{text(word()), num(1), ref(1)}) {
		t.Errorf("R4: %v", got)
	}
}

// 19.5: the descriptor that is handed in is not what the object has.
func TestDescriptorsAreTheCallers(t *testing.T) {
	h := newHeap(t, 60, 1000, 9)
	var seen api.Value
	trap := addNative(t, h, func(_ api.Value, l []api.Value) (api.Value, error) {
		seen = l[2]
		spoil(l, text("junk"))
		return yes(), nil
	})
	target := ordinary(t, h, null())
	p := of(t, h, target, ordinary(t, h, null(), has("defineProperty", ref(trap))))
	s, k := word(), word()
	if ok, err := h.DefineOwnProperty(p, str(k), open(text(s))); !ok || err != nil {
		t.Fatal(ok, err)
	}
	spoilWord(s)
	spoilWord(k)
	looks(t, h, seen.Id, asObject(open(text(word()))))
	looks(t, h, target, api.Shape{Class: api.COrdinary, Proto: null(), Extensible: true})
}

// 19.4: the descriptor that is handed out is not what the object has.
func TestOwnIsTheCallers(t *testing.T) {
	h := newHeap(t, 60, 1000, 9)
	s := word()
	r := ordinary(t, h, null(), has("value", text(s)), has("configurable", yes()))
	p := of(t, h, ordinary(t, h, null()), ordinary(t, h, null(), has("getOwnPropertyDescriptor", ref(giving(t, h, ref(r))))))
	one, _, err := h.GetOwnProperty(p, str("a"))
	two, _, wrong := h.GetOwnProperty(p, str("a"))
	if err != nil || wrong != nil || !apart(s, one.Value.Str, two.Value.Str) {
		t.Errorf("R4: %v, %v", one, two)
	}
	spoilWord(s)
	spoilWord(one.Value.Str)
	if want := data(text(word()), api.No, api.No, api.Yes); two != want {
		t.Errorf("R4: %v", two)
	}
	getOwn(p, str("a")).is(t, h, 1+1+3+2+8, own{data(text(word()), api.No, api.No, api.Yes), true}, nil)
}

// 19.7, 19.11: what a trap answers may be what it was given, or what it keeps: it is handed out as new memory.
func TestAnswersAreTheCallers(t *testing.T) {
	h := newHeap(t, 60, 1000, 9)
	keeps := giving(t, h, text(word()))
	third := fn(t, h, api.Op{Code: api.OArg, A: 2}, api.Op{Code: api.OReturn})
	second := fn(t, h, api.Op{Code: api.OArg, A: 1}, api.Op{Code: api.OReturn})
	kept := of(t, h, keeps, ordinary(t, h, null(), has("get", ref(keeps)), has("apply", ref(keeps))))
	back := of(t, h, keeps, ordinary(t, h, null(), has("get", ref(third)), has("apply", ref(second))))
	s := word()
	all := []string{s}
	for _, p := range []int{kept, back, kept, back} {
		v, err := h.Get(p, str("a"), text(s))
		w, wrong := h.Call(p, text(s), nil)
		if err != nil || wrong != nil || v != text(word()) || w != text(word()) {
			t.Errorf("%v, %v, %v, %v", v, err, w, wrong)
		}
		all = append(all, v.Str, w.Str)
	}
	if !apart(all...) {
		t.Errorf("R4: %q", all)
	}
	for _, s := range all {
		spoilWord(s)
	}
	gets(kept, str("a"), null()).is(t, h, 6, text(word()), nil)
	calls(kept, null()).is(t, h, 5, text(word()), nil)
}

// What is thrown is new each time: who changes it changes nothing else.
func TestThrowsAreTheCallers(t *testing.T) {
	h := newHeap(t, 9, 1000, 9)
	target := ordinary(t, h, null(), is("a", shut(num(1))))
	p := of(t, h, target, ordinary(t, h, null(), has("get", ref(giving(t, h, num(2)))), has("has", num(1))))
	gone := of(t, h, target, target)
	revokes(gone).is(t, h, 0, struct{}{}, nil)
	for range 2 {
		for _, x := range []act{gets(p, str("a"), null()), hasProp(p, str("a")), getProto(gone), news(num(1), num(1))} {
			_, err := x.played(h)
			thrown, ok := err.(*api.Thrown)
			if !ok || *thrown != (api.Thrown{Kind: api.XType}) {
				t.Fatalf("%s: %v", x.name, err)
			}
			*thrown = api.Thrown{Kind: 99, Value: text("junk")}
		}
	}
}

// Two heaps know nothing of each other.
func TestHeapsAreApart(t *testing.T) {
	a, b := newHeap(t, 9, 20, 5), newHeap(t, 9, 20, 5)
	p := of(t, a, ordinary(t, a, null(), has("a", num(1))), ordinary(t, a, null()))
	q := of(t, b, ordinary(t, b, null(), has("a", num(2))), ordinary(t, b, null()))
	revokes(p).is(t, a, 0, struct{}{}, nil)
	gets(p, str("a"), null()).is(t, a, 1, nil, typeError())
	gets(q, str("a"), null()).is(t, b, 3, num(2), nil)
	tells(q).is(t, b, 0, pair{ref(1), ref(2)}, nil)
}
