package invariant_test

import (
	"slices"
	"testing"

	"cameo/api"
	"cameo/invariant"
)

// differs holds what Diff tells against what it must, all fields of each member, and Patch of it against the later moment.
func differs(t *testing.T, before, after []api.Shape, want ...api.Delta) {
	t.Helper()
	l, e := invariant.Diff(before, after)
	if e != api.OK || sayDeltas(l) != sayDeltas(want) {
		t.Errorf("10.3: %d,\n%swant\n%s", e, sayDeltas(l), sayDeltas(want))
	}
	if m, e := invariant.Patch(before, l); e != api.OK || say(m) != say(after) {
		t.Errorf("10.9: %d,\n%swant\n%s", e, say(m), say(after))
	}
}

func gone(o int, k string) api.Delta { return api.Delta{O: o, What: api.DGone, Key: str(k)} }

func put(o int, k string, d api.Desc) api.Delta {
	return api.Delta{O: o, What: api.DPut, Key: str(k), Desc: d}
}

// letters is properties with these keys, all of one descriptor.
func letters(s string, d api.Desc) []api.Prop {
	var l []api.Prop
	for _, c := range s {
		l = append(l, prop(string(c), d))
	}
	return l
}

// Example 3, and others of its kind: - is DGone, + DPut.
func TestKeptKeys(t *testing.T) {
	d := data(num(1), "wec")
	for _, c := range []struct{ from, to, want string }{
		{"abc", "acb", "-b+b"}, {"ab", "ba", "-a+a"}, {"ab", "cab", "-a-b+c+a+b"},
		{"", "", ""}, {"a", "a", ""}, {"abc", "abc", ""}, {"", "ab", "+a+b"}, {"ab", "", "-a-b"}, {"a", "b", "-a+b"},
		{"abcd", "bd", "-a-c"}, {"abcd", "bdx", "-a-c+x"}, {"abcd", "bxd", "-a-c-d+x+d"}, {"abcd", "dcba", "-a-b-c+c+b+a"},
		{"abcd", "bcda", "-a+a"}, {"abcd", "dabc", "-a-b-c+a+b+c"}, {"abcd", "abdc", "-c+c"}, {"abcd", "xabcd", "-a-b-c-d+x+a+b+c+d"},
		{"abcd", "abcdx", "+x"}, {"abcde", "acebd", "-b-d+b+d"}, {"abcde", "aebcd", "-b-c-d+b+c+d"},
	} {
		var want []api.Delta
		for i := 0; i < len(c.want); i += 2 {
			if k := c.want[i+1 : i+2]; c.want[i] == '-' {
				want = append(want, gone(1, k))
			} else {
				want = append(want, put(1, k, d))
			}
		}
		differs(t, moment(opened(letters(c.from, d)...)), moment(opened(letters(c.to, d)...)), want...)
	}
}

// 10.3: each way in which an object can be another one, alone.
func TestDiffAlone(t *testing.T) {
	d := data(num(1), "w")
	before := moment(opened(), shut(prop("a", d), prop("b", accessor(ref(1), undefined(), "c"))))
	for _, c := range []struct {
		do   func(l []api.Shape) []api.Shape
		want []api.Delta
	}{
		{func(l []api.Shape) []api.Shape { return l }, nil},
		{func(l []api.Shape) []api.Shape { l[1].Class = api.CArray; return l }, []api.Delta{{O: 2, What: api.DClass, N: api.CArray}}},
		{func(l []api.Shape) []api.Shape { l[1].Class = 0; return l }, []api.Delta{{O: 2, What: api.DClass}}},
		{func(l []api.Shape) []api.Shape { l[0].Proto = ref(2); return l }, []api.Delta{{O: 1, What: api.DProto, V: ref(2)}}},
		{func(l []api.Shape) []api.Shape { l[0].Proto = api.Value{}; return l }, []api.Delta{{O: 1, What: api.DProto}}},
		{func(l []api.Shape) []api.Shape { l[0].Proto.Num = minus0(); return l }, []api.Delta{{O: 1, What: api.DProto, V: api.Value{Kind: api.KNull, Num: minus0()}}}},
		{func(l []api.Shape) []api.Shape { l[0].Extensible = false; return l }, []api.Delta{{O: 1, What: api.DExt}}},
		{func(l []api.Shape) []api.Shape { l[1].Extensible = true; return l }, []api.Delta{{O: 2, What: api.DExt, Yes: true}}},
		{func(l []api.Shape) []api.Shape { l[1].Props = l[1].Props[:1]; return l }, []api.Delta{gone(2, "b")}},
		{func(l []api.Shape) []api.Shape { l[1].Props = l[1].Props[1:]; return l }, []api.Delta{gone(2, "a")}},
		{func(l []api.Shape) []api.Shape { l[0].Props = letters("x", d); return l }, []api.Delta{put(1, "x", d)}},
		{func(l []api.Shape) []api.Shape { l[0].Props = []api.Prop{{}}; return l }, []api.Delta{{O: 1, What: api.DPut}}},
		{func(l []api.Shape) []api.Shape { l[0].Props = []api.Prop{{Key: sym(1), Desc: d}}; return l }, []api.Delta{{O: 1, What: api.DPut, Key: sym(1), Desc: d}}},
		{func(l []api.Shape) []api.Shape { l[1].Props[0].Desc = data(num(2), "w"); return l }, []api.Delta{put(2, "a", data(num(2), "w"))}},
		{func(l []api.Shape) []api.Shape { l[1].Props[0].Desc = api.Desc{}; return l }, []api.Delta{put(2, "a", api.Desc{})}},
		{func(l []api.Shape) []api.Shape { l[1].Props[1].Desc = accessor(ref(1), undefined(), "ec"); return l }, []api.Delta{put(2, "b", accessor(ref(1), undefined(), "ec"))}},
		{func(l []api.Shape) []api.Shape { l[1].Props[1].Desc = data(num(nan()), ""); return l }, []api.Delta{put(2, "b", data(num(nan()), ""))}},
		{func(l []api.Shape) []api.Shape { return append(l, api.Shape{}) }, []api.Delta{{O: 3, What: api.DMake}}},
		{func(l []api.Shape) []api.Shape {
			return append(l, api.Shape{Class: api.CProxy, Proto: ref(1), Extensible: true, Props: letters("ba", d)})
		}, []api.Delta{{O: 3, What: api.DMake, N: api.CProxy, V: ref(1), Yes: true}, put(3, "b", d), put(3, "a", d)}},
	} {
		differs(t, before, c.do(copied(before)), c.want...)
	}
	differs(t, nil, nil)
	differs(t, []api.Shape{}, nil)
}

// 10.3: several at once: by objects, then class, prototype, extensible or not, what is gone, what is another one at its place, what is put behind.
func TestDiffInOrder(t *testing.T) {
	d, x := data(num(1), "wec"), data(num(2), "wec")
	before := moment(
		shut(letters("abcde", d)...),
		opened(),
		opened(letters("pq", d)...),
	)
	after := moment(
		api.Shape{Class: api.CString, Proto: ref(4), Extensible: true, Props: []api.Prop{prop("a", x), prop("c", d), prop("d", x), prop("n", x), prop("b", x), prop("m", d)}},
		opened(),
		api.Shape{Class: api.COrdinary, Proto: ref(1), Extensible: true, Props: []api.Prop{prop("q", x), prop("p", d)}},
		api.Shape{Class: api.CArray, Proto: null(), Props: []api.Prop{prop("z", x), prop("y", d)}},
		api.Shape{Class: api.CBound, Extensible: true},
	)
	differs(t, before, after,
		api.Delta{O: 1, What: api.DClass, N: api.CString}, api.Delta{O: 1, What: api.DProto, V: ref(4)}, api.Delta{O: 1, What: api.DExt, Yes: true},
		gone(1, "b"), gone(1, "e"), put(1, "a", x), put(1, "d", x), put(1, "n", x), put(1, "b", x), put(1, "m", d),
		api.Delta{O: 3, What: api.DProto, V: ref(1)}, gone(3, "p"), put(3, "q", x), put(3, "p", d),
		api.Delta{O: 4, What: api.DMake, N: api.CArray, V: null()}, put(4, "z", x), put(4, "y", d),
		api.Delta{O: 5, What: api.DMake, N: api.CBound, Yes: true},
	)
}

// 10.3: numbers that are not a number are all one; noughts are two.
func TestDiffOfNumbers(t *testing.T) {
	hold := func(x float64) []api.Shape { return moment(opened(prop("a", data(num(x), "")))) }
	for _, c := range [][2]float64{{nan(), nan()}, {nan(), otherNaN()}, {0, 0}, {minus0(), minus0()}} {
		if l, e := invariant.Diff(hold(c[0]), hold(c[1])); len(l) != 0 || e != api.OK {
			t.Errorf("10.3: %v: %v, %d", c, l, e)
		}
	}
	differs(t, hold(0), hold(minus0()), put(1, "a", data(num(minus0()), "")))
	differs(t, hold(minus0()), hold(0), put(1, "a", data(num(0), "")))
	differs(t, hold(nan()), hold(0), put(1, "a", data(num(0), "")))
}

// 10.3: what Diff refuses, and which of two refusals comes first.
func TestDiffRefuses(t *testing.T) {
	d := data(num(1), "")
	fine, double := opened(letters("ab", d)...), opened(letters("aba", d)...)
	far := opened(prop("a", d), api.Prop{Key: sym(1), Desc: d}, prop("b", data(num(2), "c")), api.Prop{Key: sym(1), Desc: accessor(ref(1), ref(1), "")})
	for _, c := range []struct {
		before, after []api.Shape
		want          api.Errno
	}{
		{moment(fine), nil, api.ErrRange}, {moment(fine, fine), moment(fine), api.ErrRange},
		{moment(double), nil, api.ErrRange}, {moment(fine, fine), moment(double), api.ErrRange}, {moment(double, double), moment(double), api.ErrRange},
		{moment(double), moment(fine), api.ErrValue}, {moment(fine), moment(double), api.ErrValue}, {moment(double), moment(double), api.ErrValue},
		{moment(fine), moment(fine, double), api.ErrValue}, {moment(fine, double), moment(fine, fine), api.ErrValue}, {moment(fine), moment(fine, fine, far), api.ErrValue},
		{moment(far), moment(fine), api.ErrValue}, {nil, moment(opened(letters("aa", d)...)), api.ErrValue},
		{moment(opened(api.Prop{}, api.Prop{})), moment(opened()), api.ErrValue},
		{moment(opened(prop("a", d), api.Prop{Key: api.Key{Str: "a", Sym: 1}})), moment(opened()), api.OK}, // two keys, whatever they are
		{nil, nil, api.OK}, {nil, moment(fine), api.OK},
	} {
		l, e := invariant.Diff(c.before, c.after)
		if e != c.want || e != api.OK && len(l) != 0 {
			t.Errorf("10.3: %v, %d; want %d; from\n%sto\n%s", l, e, c.want, say(c.before), say(c.after))
		}
	}
}

// 10.3 and 10.9 of all orders of up to four keys, and of all their parts.
func TestDiffOfAllOrders(t *testing.T) {
	rows := []string{""}
	for i := 0; i < len(rows); i++ {
		for _, c := range "abcd" {
			if row := rows[i]; !slices.Contains([]rune(row), c) {
				rows = append(rows, row+string(c))
			}
		}
	}
	if len(rows) != 65 {
		t.Fatal(len(rows))
	}
	for _, from := range rows {
		for _, to := range rows {
			before, after := moment(opened(letters(from, data(num(1), ""))...)), moment(opened(letters(to, data(num(1), ""))...))
			want, _ := diffBy(before, after)
			differs(t, before, after, want...)
			for i := range after[0].Props {
				after[0].Props[i].Desc = data(num(float64(i%2)), "")
			}
			want, _ = diffBy(before, after)
			differs(t, before, after, want...)
		}
	}
}

// 10.3, held against the second reading, its refusals among the rest.
func TestDiffAtRandom(t *testing.T) {
	t.Parallel()
	met := map[api.Errno]int{}
	for seed := range int64(15000) {
		c := newChance(seed, seed%2 == 0)
		before := c.moment()
		after := c.turned(before)
		if seed%8 == 0 {
			after = c.moment()
		}
		want, e := diffBy(before, after)
		l, got := invariant.Diff(before, after)
		if got != e || sayDeltas(l) != sayDeltas(want) {
			t.Fatalf("10.3: %d,\n%swant %d,\n%s", got, sayDeltas(l), e, sayDeltas(want))
		}
		met[e]++
	}
	if len(met) != 3 || met[api.OK] < 1000 || met[api.ErrRange] < 1000 || met[api.ErrValue] < 1000 {
		t.Errorf("met: %v", met)
	}
}
