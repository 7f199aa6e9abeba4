package args_test

// 13.2 and 13.3: which parameters there are, what is tied to which, and the calls that tell and change them.

import (
	"math"
	"slices"
	"strconv"
	"strings"
	"testing"

	"cameo/api"
	"cameo/args"
	"cameo/heap"
)

// begins is the second reading of 13.2: from the last place to the first one, each name for itself.
func begins(l []api.Value, names []string) []slot {
	var out []slot
	for i, s := range names {
		if slices.Contains(names[:i], s) {
			continue
		}
		last := len(names) - 1
		for names[last] != s {
			last--
		}
		x := slot{s, undefined(), -1}
		if last < len(l) {
			x.value, x.index = l[last], last
		}
		out = append(out, x)
	}
	return out
}

// tiesAre holds what a new mapped arguments object has against 13.2.
func tiesAre(t *testing.T, l []api.Value, names []string, want []slot) {
	t.Helper()
	h := newHeap(t, 1, 0, 1)
	o, err := args.Mapped(h, null(), l, names, null())
	if err != nil {
		t.Fatal(err)
	}
	if got := slots(h, o); !slices.EqualFunc(got, want, sameSlot) {
		t.Errorf("13.2: %v, %v: %v, want %v", l, names, got, want)
	}
	for i, v := range l {
		tells(t, h, o, str(strconv.Itoa(i)), data(v, "wec"))
	}
}

// 13.2, written out.
func TestParameters(t *testing.T) {
	u := undefined()
	for _, c := range []struct {
		names   string
		members int
		want    []slot
	}{
		{"", 0, nil}, {"", 3, nil},
		{"a", 0, []slot{{"a", u, -1}}}, {"a", 1, []slot{{"a", num(1), 0}}}, {"a", 2, []slot{{"a", num(1), 0}}},
		{"ab", 1, []slot{{"a", num(1), 0}, {"b", u, -1}}}, {"ba", 2, []slot{{"b", num(1), 0}, {"a", num(2), 1}}},
		{"aa", 0, []slot{{"a", u, -1}}}, {"aa", 1, []slot{{"a", u, -1}}}, {"aa", 2, []slot{{"a", num(2), 1}}}, {"aa", 3, []slot{{"a", num(2), 1}}},
		{"aba", 2, []slot{{"a", u, -1}, {"b", num(2), 1}}}, {"aba", 3, []slot{{"a", num(3), 2}, {"b", num(2), 1}}}, {"aba", 1, []slot{{"a", u, -1}, {"b", u, -1}}},
		{"abba", 3, []slot{{"a", u, -1}, {"b", num(3), 2}}}, {"aab", 2, []slot{{"a", num(2), 1}, {"b", u, -1}}}, {"baa", 2, []slot{{"b", num(1), 0}, {"a", u, -1}}},
		{"cbabc", 5, []slot{{"c", num(5), 4}, {"b", num(4), 3}, {"a", num(3), 2}}},
	} {
		tiesAre(t, numbers(c.members), letters(c.names), c.want)
	}
}

// 13.2: all rows of up to four of three names, with none to five members.
func TestAllRowsOfNames(t *testing.T) {
	var rows func(row []string)
	rows = func(row []string) {
		for n := range 6 {
			tiesAre(t, numbers(n), row, begins(numbers(n), row))
		}
		if len(row) < 4 {
			for _, s := range []string{"a", "b", ""} {
				rows(append(slices.Clone(row), s))
			}
		}
	}
	rows(nil)
}

// 13.2: names that are other things, too, and members that are the same, and nothing.
func TestNamesOfAllKinds(t *testing.T) {
	names := []string{"", "length", "0", "callee", "1", "\xed\xa0\xbd", "\xed\xb8\x80", "\U0001f600", "\x00", "a b", "arguments", "é", "e\u0301"}
	for n := range len(names) + 2 {
		l := slices.Repeat([]api.Value{undefined(), num(nan), num(below0), num(0)}, 4)[:n]
		tiesAre(t, l, names, begins(l, names))
		tiesAre(t, l, append(slices.Clone(names), names[3], names[0]), begins(l, append(slices.Clone(names), names[3], names[0])))
	}
}

// 13.2: as many as may be.
func TestMostNames(t *testing.T) {
	h := newHeap(t, 1, 100, 3)
	var names []string
	for i := range api.MaxArgs {
		names = append(names, strings.Repeat("x", i%512))
	}
	o, err := args.Mapped(h, null(), numbers(api.MaxArgs), names, null())
	if err != nil {
		t.Fatal(err)
	}
	if got, want := slots(h, o), begins(numbers(api.MaxArgs), names); !slices.EqualFunc(got, want, sameSlot) || len(want) != 512 || want[0].index != 512 {
		t.Errorf("13.2: %v", got)
	}
	yields(t, h, "Set", 3, true, func() (bool, error) { return h.Set(o, str("1023"), text("last"), ref(o)) })
	has(t, h, o, names[1023], text("last"))
	yields(t, h, "Set", 3, true, func() (bool, error) { return h.Set(o, str("511"), text("not tied"), ref(o)) })
	has(t, h, o, names[511], text("last"))
}

// kinds is a heap with the objects 1 (ordinary), 2 (a function), 3 (unmapped), 4 (a native one), 5 (mapped, without names), 6 (mapped: a, b, c with 1, 2).
func kinds(t *testing.T) *heap.Heap {
	t.Helper()
	h := newHeap(t, 6, 20, 3)
	made(t, h, null())
	fn(t, h)
	unmapped(t, h, num(1))
	addNative(t, h, nil)
	mapped(t, h, "", num(1))
	mapped(t, h, "abc", numbers(2)...)
	return h
}

// asked is the four calls with one object, name, index and value: their answers must be zero beside an error.
func asked(t *testing.T, h *heap.Heap, o int, name string, i int, v api.Value) (names, get, set, linked api.Errno) {
	t.Helper()
	l, names := args.Names(h, o)
	got, get := args.Slot(h, o, name)
	s, ok, linked := args.Linked(h, o, i)
	if names != api.OK && len(l) != 0 || get != api.OK && got != (api.Value{}) || linked != api.OK && (ok || s != "") || !ok && s != "" {
		t.Errorf("13.3: %d, %s, %d: %v, %v, %v, %v", o, name, i, l, got, s, ok)
	}
	return names, get, args.SetSlot(h, o, name, v), linked
}

// 13.3: no object, then no mapped one, then no such parameter, then no value of the heap.
func TestSlotsRefused(t *testing.T) {
	h := kinds(t)
	before := now(h)
	check := func(o int, name string, v api.Value, want [4]api.Errno) {
		t.Helper()
		for _, i := range []int{2, -1, 0, 1 << 40} {
			names, get, set, linked := asked(t, h, o, name, i, v)
			if got := [4]api.Errno{names, get, set, linked}; got != want {
				t.Errorf("13.3: %d, %q, %v: %v, want %v", o, name, v.Kind, got, want)
			}
		}
	}
	values := append(broken(), ref(7), ref(65536), text(long()), num(1))
	names := append(badNames(), "", "a", "A", "d", "ab", "0", "length", "callee", long())
	for _, v := range values {
		for _, name := range names {
			for _, o := range []int{0, -1, 7, 65536, math.MaxInt, math.MinInt} {
				check(o, name, v, [4]api.Errno{api.ErrRef, api.ErrRef, api.ErrRef, api.ErrRef})
			}
			for o := 1; o <= 4; o++ {
				check(o, name, v, [4]api.Errno{api.ErrKind, api.ErrKind, api.ErrKind, api.ErrKind})
			}
			check(5, name, v, [4]api.Errno{0, api.ErrRange, api.ErrRange, 0})
			if name != "a" {
				check(6, name, v, [4]api.Errno{0, api.ErrRange, api.ErrRange, 0})
			}
		}
		if v != num(1) {
			check(6, "c", v, [4]api.Errno{0, 0, h.Check(v), 0})
			check(6, "a", v, [4]api.Errno{0, 0, h.Check(v), 0})
		}
	}
	if !sameMoment(now(h), before) || h.Fuel() != 20 {
		t.Error("13.3: what is refused changes something")
	}
}

// 13.3: a parameter takes any value, tied or not, and tells it; what is tied to it tells it too, and nothing else does.
func TestSetSlot(t *testing.T) {
	h := kinds(t)
	for _, v := range append(plain(), ref(1), ref(6), ref(3), num(7)) {
		for _, name := range []string{"a", "c", "b"} {
			want := now(h)
			give(t, h, 6, name, v)
			at := strings.Index("abc", name)
			want.slots[5][at].value = v
			if at < 2 {
				want.shapes[5].Props[at].Desc.Value = v
			}
			if !sameMoment(now(h), want) || h.Fuel() != 20 {
				t.Errorf("13.3: SetSlot(%s, %v): %v", name, v, now(h))
			}
			has(t, h, 6, name, v)
		}
		tells(t, h, 6, str("0"), data(v, "wec"))
		tells(t, h, 6, str("1"), data(v, "wec"))
		tells(t, h, 6, str("2"), api.Desc{})
	}
}

// 13.3: without fuel and without depth, too.
func TestSlotsCostNothing(t *testing.T) {
	h := kinds(t)
	h.Refuel(0)
	give(t, h, 6, "a", num(5))
	has(t, h, 6, "a", num(5))
	tied(t, h, 6, 0, "a")
	if l, e := args.Names(h, 6); !slices.Equal(l, []string{"a", "b", "c"}) || e != api.OK || h.Fuel() != 0 {
		t.Errorf("13.3: %v, %v", l, e)
	}
	if l, e := args.Names(h, 5); len(l) != 0 || e != api.OK {
		t.Errorf("13.3: %v, %v", l, e)
	}
}

// 13.3: numbers that are no index at all, and such that would come round to one in fewer bits.
func TestLinkedOfAllNumbers(t *testing.T) {
	h := kinds(t)
	for _, i := range []int{-1, 2, 3, 1023, 1024, math.MaxInt32, api.MaxIndex, api.MaxLength, 1 << 32, 1<<32 + 1, 1 << 33, 1 << 53, math.MaxInt, math.MinInt, math.MinInt + 1, -1 << 32, 1<<16 + 1, 1<<8 + 1} {
		tied(t, h, 6, i, "")
		tied(t, h, 5, i, "")
	}
	tied(t, h, 6, 0, "a")
	tied(t, h, 6, 1, "b")
	tied(t, h, 5, 0, "")
}

// 13.2: objects of one function have each their own parameters.
func TestParametersAreTheirOwn(t *testing.T) {
	h := newHeap(t, 2, 100, 5)
	one, two := mapped(t, h, "ab", numbers(2)...), mapped(t, h, "ab", numbers(2)...)
	give(t, h, one, "a", num(5))
	has(t, h, two, "a", num(1))
	yields(t, h, "Set", 3, true, func() (bool, error) { return h.Set(two, str("1"), num(6), ref(two)) })
	has(t, h, one, "b", num(2))
	yields(t, h, "Delete", 1, true, func() (bool, error) { return h.Delete(one, str("1")) })
	tied(t, h, two, 1, "b")
}
