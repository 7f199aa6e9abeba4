package namespace_test

// 20.8: what New refuses, in which order, and what it makes.

import (
	"fmt"
	"slices"
	"strconv"
	"strings"
	"testing"

	"cameo/api"
	"cameo/heap"
	"cameo/namespace"
)

// refuses holds that New makes nothing of names, costs nothing, and changes nothing.
func refuses(t *testing.T, room int, names []string, want error) {
	t.Helper()
	h := newHeap(t, 1+room, 5, 1)
	of(t, h, "a")
	before := now(h)
	if o, err := namespace.New(h, names); o != 0 || err != want {
		t.Errorf("20.8: %d names, as %.60q: %d, %v; want %v", len(names), names, o, err, want)
	}
	if !sameMoment(now(h), before) || h.Fuel() != 5 {
		t.Errorf("20.8: %.60q: what is refused changes something", names)
	}
}

// wrongNames is lists of which no namespace can be made.
func wrongNames() [][]string {
	l := [][]string{
		{"a", "a"}, {"", ""}, {"a", "b", "a"}, {"b", "a", "a"}, {"a", "a", "b"}, {"\U0001f600", "a", "\U0001f600"}, {high, low, high}, {"1", "01", "1"}, {"a", "a", "a", "a"},
		{tooLong}, {"a", tooLong}, {tooLong, "a"}, {tooLong, tooLong}, {"a", "a", tooLong}, {"\xff", tooLong}, {strings.Repeat("\u20ac", api.MaxStr/3+1)}, {strings.Repeat("x", 4*api.MaxStr)},
		append(many(3000), "n2999"), append([]string{"n2999"}, many(3000)...), append(many(3000), "\xff"), append(many(3000), tooLong),
	}
	for _, s := range noStrings() {
		l = append(l, []string{s}, []string{"a", s}, []string{s, "a"}, []string{"a", s, "b"}, []string{s, s}, []string{"a", "a", s})
	}
	return l
}

// many is so many names, no two of them the same.
func many(n int) []string {
	l := make([]string, n)
	for i := range l {
		l[i] = "n" + strconv.Itoa(i)
	}
	return l
}

// Whatever is wrong with the names, it is ErrValue, and comes ahead of that there is no room.
func TestNewRefuses(t *testing.T) {
	for _, names := range wrongNames() {
		for room := range 3 {
			refuses(t, room, names, api.ErrValue)
		}
	}
	for _, names := range goodNames() {
		refuses(t, 0, names, api.ErrFull)
	}
	empty := newHeap(t, 0, 0, 1)
	if o, err := namespace.New(empty, nil); o != 0 || err != api.ErrFull || empty.Len() != 0 {
		t.Errorf("20.8: %d, %v", o, err)
	}
	if o, err := namespace.New(empty, []string{"a", "a"}); o != 0 || err != api.ErrValue || empty.Len() != 0 {
		t.Errorf("20.8: %d, %v", o, err)
	}
}

// goodNames is lists of which namespaces are made.
func goodNames() [][]string {
	return [][]string{
		nil, {}, {""}, {"a"}, {"\x00"}, {high}, {low}, {"\U0001f600"}, {"default"}, {"__proto__"}, {"length"}, {"0"}, {"4294967294"}, {"-0"},
		{"a", "b"}, {"b", "a"}, {"a", ""}, {"a", "aa"}, {"aa", "a"}, {"a", "A"}, {"a", "a "}, {"1", "01"}, {"10", "2", "b", "a"}, {"e\u0301", "\u00e9"}, {high, low, "\U0001f600"}, {low + high, high + "a" + low},
		{strings.Repeat("x", api.MaxStr)}, {strings.Repeat("x", api.MaxStr-1), strings.Repeat("x", api.MaxStr)}, {strings.Repeat("\U0001f600", api.MaxStr/4), "a"}, many(3000),
	}
}

// makes holds what New makes of names against what it must be: twice, and nothing for a third time.
func makes(t *testing.T, names []string) {
	t.Helper()
	h := newHeap(t, 4, 0, 1)
	object(t, h, null(), has(str("a"), num(1)))
	bind(t, h, of(t, h, "a", "b"), "a", num(5))
	before := now(h)
	want := fact{twinSorted(names), make([]api.Value, len(names))}
	for n := 3; n <= 4; n++ {
		if o, err := namespace.New(h, names); o != n || err != nil || h.Fuel() != 0 || h.Len() != n {
			t.Fatalf("20.8: %d, %v, of %.60q", o, err, names)
		}
		if s, e := h.Shape(n); !sameShape(s, namespaceShape()) || e != api.OK {
			t.Errorf("20.8: %v, %v", s, e)
		}
		if c, e := h.Class(n); c != api.CNamespace || e != api.OK || h.Callable(ref(n)) || h.Constructor(ref(n)) {
			t.Errorf("20.8: class %d, %v", c, e)
		}
		exports(t, h, n, want)
		unbound(t, h, n, want.names)
	}
	if o, err := namespace.New(h, names); o != 0 || err != api.ErrFull || h.Len() != 4 {
		t.Errorf("20.8: %d, %v", o, err)
	}
	after := now(h)
	if !sameMoment(before, moment{after.shapes[:2], after.facts[:2], after.errors[:2]}) {
		t.Errorf("20.8: the others are %v", after)
	}
}

// unbound holds that names are exports that are bound to nothing yet, and that there are no others.
func unbound(t *testing.T, h *heap.Heap, o int, names []string) {
	t.Helper()
	h.Refuel(1 << 20)
	defer h.Refuel(0)
	var want []api.Key
	for _, s := range names {
		want = append(want, str(s))
		if v, err := h.Get(o, str(s), null()); v != (api.Value{}) || !sameError(err, referenceError()) {
			t.Errorf("20.8: Get of %.20q: %v, %v", s, v, err)
		}
	}
	want = append(want, tag())
	if l, err := h.OwnPropertyKeys(o); !slices.Equal(l, want) || err != nil {
		t.Errorf("20.7: %.200s, %v; want %.200s", fmt.Sprint(l), err, fmt.Sprint(want))
	}
}

func TestNew(t *testing.T) {
	for _, names := range goodNames() {
		makes(t, names)
	}
}

// As many as a heap has room for, and one more.
func TestNewUpToTheBrim(t *testing.T) {
	h := newHeap(t, api.MaxObjects, 0, 2)
	for n := 1; n <= api.MaxObjects; n++ {
		if o, err := namespace.New(h, []string{"a"}); o != n || err != nil {
			t.Fatalf("%d, %v", o, err)
		}
	}
	if o, err := namespace.New(h, []string{"a"}); o != 0 || err != api.ErrFull {
		t.Errorf("%d, %v", o, err)
	}
	h.Refuel(10)
	bind(t, h, api.MaxObjects, "a", ref(api.MaxObjects))
	gets(api.MaxObjects, str("a"), null()).is(t, h, 1, ref(api.MaxObjects), nil)
	getOwn(api.MaxObjects, str("a")).is(t, h, 2, told(data(ref(api.MaxObjects), "we")), nil)
	gets(1, str("a"), null()).is(t, h, 1, nil, referenceError())
}
