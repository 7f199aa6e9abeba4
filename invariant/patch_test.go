package invariant_test

import (
	"math"
	"slices"
	"testing"

	"cameo/api"
	"cameo/invariant"
)

// becomes holds what Patch makes of a moment against what it must.
func becomes(t *testing.T, before []api.Shape, l []api.Delta, want []api.Shape) {
	t.Helper()
	if got, e := invariant.Patch(before, l); e != api.OK || say(got) != say(want) {
		t.Errorf("10.4: %d,\n%swant\n%s", e, say(got), say(want))
	}
}

// two is a moment of two objects.
func two() []api.Shape {
	return moment(opened(), shut(prop("a", data(num(1), "")), prop("b", data(num(2), "w")), prop("c", accessor(ref(1), ref(1), ""))))
}

// 10.4: each kind of member, and that it reads no other field than those that are its own.
func TestPatchOfOne(t *testing.T) {
	d := data(text("x"), "c")
	junk := api.Delta{N: 99, Yes: true, V: text("junk"), Key: str("junk"), Desc: data(text("junk"), "")}
	for _, c := range []struct {
		d    api.Delta
		junk func(d *api.Delta) // gives the fields that are its own back
		want func(l []api.Shape) []api.Shape
	}{
		{api.Delta{O: 3, What: api.DMake, N: api.CArray, V: ref(2), Yes: true}, func(d *api.Delta) { d.N, d.V, d.Yes = api.CArray, ref(2), true },
			func(l []api.Shape) []api.Shape {
				return append(l, api.Shape{Class: api.CArray, Proto: ref(2), Extensible: true})
			}},
		{api.Delta{O: 3, What: api.DMake}, func(d *api.Delta) { d.N, d.V, d.Yes = 0, api.Value{}, false },
			func(l []api.Shape) []api.Shape { return append(l, api.Shape{}) }},
		{api.Delta{O: 2, What: api.DClass, N: api.CProxy}, func(d *api.Delta) { d.N = api.CProxy },
			func(l []api.Shape) []api.Shape { l[1].Class = api.CProxy; return l }},
		{api.Delta{O: 1, What: api.DClass, N: -1}, func(d *api.Delta) { d.N = -1 },
			func(l []api.Shape) []api.Shape { l[0].Class = -1; return l }},
		{api.Delta{O: 1, What: api.DProto, V: ref(2)}, func(d *api.Delta) { d.V = ref(2) },
			func(l []api.Shape) []api.Shape { l[0].Proto = ref(2); return l }},
		{api.Delta{O: 2, What: api.DProto, V: api.Value{Num: 3}}, func(d *api.Delta) { d.V = api.Value{Num: 3} },
			func(l []api.Shape) []api.Shape { l[1].Proto = api.Value{Num: 3}; return l }},
		{api.Delta{O: 2, What: api.DExt, Yes: true}, func(d *api.Delta) { d.Yes = true },
			func(l []api.Shape) []api.Shape { l[1].Extensible = true; return l }},
		{api.Delta{O: 1, What: api.DExt}, func(d *api.Delta) { d.Yes = false },
			func(l []api.Shape) []api.Shape { l[0].Extensible = false; return l }},
		{gone(2, "a"), func(d *api.Delta) { d.Key = str("a") },
			func(l []api.Shape) []api.Shape { l[1].Props = l[1].Props[1:]; return l }},
		{gone(2, "b"), func(d *api.Delta) { d.Key = str("b") },
			func(l []api.Shape) []api.Shape { l[1].Props = slices.Delete(l[1].Props, 1, 2); return l }},
		{gone(2, "c"), func(d *api.Delta) { d.Key = str("c") },
			func(l []api.Shape) []api.Shape { l[1].Props = l[1].Props[:2]; return l }},
		{put(2, "b", d), func(x *api.Delta) { x.Key, x.Desc = str("b"), d },
			func(l []api.Shape) []api.Shape { l[1].Props[1].Desc = d; return l }},
		{put(2, "a", api.Desc{}), func(x *api.Delta) { x.Key, x.Desc = str("a"), api.Desc{} },
			func(l []api.Shape) []api.Shape { l[1].Props[0].Desc = api.Desc{}; return l }},
		{put(1, "a", d), func(x *api.Delta) { x.Key, x.Desc = str("a"), d },
			func(l []api.Shape) []api.Shape { l[0].Props = letters("a", d); return l }},
		{put(2, "\xff", api.Desc{Get: num(1), Value: num(1)}), func(x *api.Delta) { x.Key, x.Desc = str("\xff"), api.Desc{Get: num(1), Value: num(1)} },
			func(l []api.Shape) []api.Shape {
				l[1].Props = append(l[1].Props, prop("\xff", api.Desc{Get: num(1), Value: num(1)}))
				return l
			}},
	} {
		becomes(t, two(), []api.Delta{c.d}, c.want(two()))
		other := junk
		other.O, other.What = c.d.O, c.d.What
		c.junk(&other)
		becomes(t, two(), []api.Delta{other}, c.want(two()))
	}
}

// 10.4: one behind the other: what one has made the next one finds.
func TestPatchOfMany(t *testing.T) {
	d, x := data(num(1), ""), data(num(2), "")
	one := func(s string) []api.Shape { return moment(opened(letters(s, d)...)) }
	becomes(t, nil, nil, nil)
	becomes(t, two(), nil, two())
	becomes(t, one("abc"), []api.Delta{gone(1, "a"), put(1, "a", d)}, one("bca"))
	becomes(t, one("abc"), []api.Delta{put(1, "a", x), put(1, "a", d)}, one("abc"))
	becomes(t, one("abc"), []api.Delta{gone(1, "a"), gone(1, "c"), put(1, "x", x), put(1, "c", d), gone(1, "x"), put(1, "x", d)}, one("bcx"))
	becomes(t, one("abc"), []api.Delta{gone(1, "b"), put(1, "b", d), gone(1, "b"), put(1, "b", d)}, one("acb"))
	becomes(t, one("a"), []api.Delta{gone(1, "a"), put(1, "b", x), gone(1, "b"), put(1, "b", d)}, one("b"))
	becomes(t, one("ab"), []api.Delta{gone(1, "b"), gone(1, "a")}, one(""))
	becomes(t, nil, []api.Delta{
		{O: 1, What: api.DMake, N: api.COrdinary, V: null()}, {O: 1, What: api.DExt, Yes: true}, put(1, "a", d),
		{O: 2, What: api.DMake, N: api.CArray, V: ref(1), Yes: true}, put(2, "b", x), put(1, "b", d), {O: 2, What: api.DClass, N: api.COrdinary},
		put(2, "b", d), {O: 2, What: api.DProto, V: null()}, put(2, "c", d), {O: 1, What: api.DExt}, {O: 1, What: api.DExt, Yes: true},
	}, append(one("ab"), one("bc")...))
}

// 10.4: what Patch refuses; behind it, and ahead of it, may stand what is fine.
func TestPatchRefuses(t *testing.T) {
	fine := []api.Delta{{O: 1, What: api.DExt}, put(2, "d", api.Desc{}), {O: 2, What: api.DClass}}
	var l []api.Delta
	for _, what := range []int{0, -1, 7, 8, math.MaxInt, math.MinInt} {
		for _, o := range []int{1, 2, 3} {
			l = append(l, api.Delta{O: o, What: what, Key: str("a")})
		}
	}
	for _, o := range []int{0, -1, 3, 4, math.MaxInt, math.MinInt} {
		for _, what := range []int{api.DClass, api.DProto, api.DExt, api.DGone, api.DPut} {
			l = append(l, api.Delta{O: o, What: what, Key: str("a")})
		}
	}
	for _, o := range []int{0, -1, 1, 2, 4, 5, math.MaxInt, math.MinInt} {
		l = append(l, api.Delta{O: o, What: api.DMake, N: api.COrdinary, V: null(), Key: str("a")})
	}
	l = append(l, gone(1, "a"), gone(2, "d"), gone(2, ""), api.Delta{O: 2, What: api.DGone, Key: api.Key{Str: "a", Sym: 1}}, api.Delta{O: 2, What: api.DGone, Key: sym(1)})
	for _, bad := range l {
		for _, row := range [][]api.Delta{{bad}, {fine[0], fine[2], bad}, {bad, fine[0], fine[1]}, {fine[0], bad, fine[1]}} {
			if m, e := invariant.Patch(two(), row); e != api.ErrRange || len(m) != 0 {
				t.Errorf("10.4: %d,\n%sof\n%s", e, say(m), sayDeltas(row))
			}
		}
	}
	for _, row := range [][]api.Delta{
		{gone(2, "a"), gone(2, "a")}, {put(1, "a", api.Desc{}), gone(1, "a"), gone(1, "a")}, {gone(2, "a"), put(2, "x", api.Desc{}), gone(2, "a")},
		{{O: 3, What: api.DMake}, {O: 3, What: api.DMake}}, {{O: 3, What: api.DExt}, {O: 3, What: api.DMake}}, {{O: 3, What: api.DMake}, gone(3, "a")},
	} {
		if m, e := invariant.Patch(two(), row); e != api.ErrRange || len(m) != 0 {
			t.Errorf("10.4: %d,\n%sof\n%s", e, say(m), sayDeltas(row))
		}
	}
	if m, e := invariant.Patch(nil, []api.Delta{{O: 1, What: api.DExt}}); e != api.ErrRange || len(m) != 0 {
		t.Errorf("10.4: %d, %s", e, say(m))
	}
}

// 10.4: of a key that stands twice the first one is the property: it is put, and taken out, and then the next one is.
func TestPatchOfKeysTwice(t *testing.T) {
	one, other, x := prop("a", data(num(1), "")), prop("a", data(num(2), "")), data(num(3), "")
	b := prop("b", data(num(1), ""))
	m := func(l ...api.Prop) []api.Shape { return moment(opened(l...)) }
	becomes(t, m(one, b, other), nil, m(one, b, other))
	becomes(t, m(one, b, other), []api.Delta{put(1, "a", x)}, m(prop("a", x), b, other))
	becomes(t, m(one, b, other), []api.Delta{put(1, "b", x)}, m(one, prop("b", x), other))
	becomes(t, m(one, b, other), []api.Delta{gone(1, "a")}, m(b, other))
	becomes(t, m(one, b, other), []api.Delta{gone(1, "a"), put(1, "a", x)}, m(b, prop("a", x)))
	becomes(t, m(one, b, other), []api.Delta{gone(1, "a"), gone(1, "a")}, m(b))
	becomes(t, m(one, b, other), []api.Delta{gone(1, "a"), gone(1, "a"), put(1, "a", x)}, m(b, prop("a", x)))
	becomes(t, m(one, other, one), []api.Delta{gone(1, "a"), gone(1, "a")}, m(one))
	if l, e := invariant.Patch(m(one, b, other), []api.Delta{gone(1, "a"), gone(1, "a"), gone(1, "a")}); e != api.ErrRange || len(l) != 0 {
		t.Errorf("10.4: %d, %s", e, say(l))
	}
}

// delta is a member at random, which may be one that cannot be done.
func (c chance) delta(objects int) api.Delta {
	d := api.Delta{O: 1 + c.Intn(objects+1), What: api.DMake + c.Intn(6), N: c.class(), Yes: c.Intn(2) == 0, V: c.value(), Key: c.key(), Desc: c.desc()}
	switch c.Intn(40) {
	case 0:
		d.O = c.Intn(8) - 2
	case 1:
		d.What = c.Intn(10) - 1
	case 2, 3, 4:
		d.O, d.What = objects+1, api.DMake
	}
	return d
}

// 10.4, held against the second reading.
func TestPatchAtRandom(t *testing.T) {
	t.Parallel()
	met := map[api.Errno]int{}
	for seed := range int64(15000) {
		c := newChance(seed, seed%2 == 0)
		before := append(c.moment(), c.shape(), c.shape())
		var l []api.Delta
		for range c.Intn(8) {
			l = append(l, c.delta(len(before)))
			// Lists that go far are made of members that can be done, but for some.
			if _, e := patchBy(before, l); e != api.OK && c.Intn(10) > 0 {
				l = l[:len(l)-1]
			}
		}
		want, e := patchBy(before, l)
		got, e2 := invariant.Patch(before, l)
		if e2 != e || say(got) != say(want) {
			t.Fatalf("10.4: %d,\n%swant %d,\n%s", e2, say(got), e, say(want))
		}
		met[e]++
	}
	if len(met) != 2 || met[api.OK] < 1000 || met[api.ErrRange] < 1000 {
		t.Errorf("met: %v", met)
	}
}

// 10.3, 10.4, 10.9: many properties.
func TestManyProperties(t *testing.T) {
	s := opened()
	for i := range 20000 {
		s.Props = append(s.Props, api.Prop{Key: sym(i + 1), Desc: data(num(float64(i)), "wec")})
	}
	turned := copied(moment(s))
	slices.Reverse(turned[0].Props)
	l, e := invariant.Diff(moment(s), turned)
	if len(l) != 2*19999 || e != api.OK {
		t.Fatalf("10.3: %d members, %d", len(l), e)
	}
	if m, e := invariant.Patch(moment(s), l); e != api.OK || !invariant.Same(m, turned) {
		t.Errorf("10.9: %d", e)
	}
	if o, rule := invariant.Broken(moment(s), turned); o != 0 || rule != 0 {
		t.Errorf("10.1: %d, %d", o, rule)
	}
}
