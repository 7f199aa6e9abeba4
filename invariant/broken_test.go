package invariant_test

import (
	"slices"
	"testing"

	"cameo/api"
	"cameo/invariant"
)

func breaksBy(t *testing.T, before, after []api.Shape, o, rule int) {
	t.Helper()
	if gotO, gotRule := invariant.Broken(before, after); gotO != o || gotRule != rule {
		t.Errorf("10.1: %d, %d; want %d, %d; from\n%sto\n%s", gotO, gotRule, o, rule, say(before), say(after))
	}
}

// The chapter's examples 1 and 2.
func TestExamplesOfBroken(t *testing.T) {
	before := moment(shut(prop("a", data(num(1), ""))))
	breaksBy(t, before, moment(shut(prop("a", data(num(2), "")))), 1, api.RProp)
	breaksBy(t, before, moment(shut(prop("a", data(num(1), "")), prop("b", data(num(1), "")))), 1, api.RKey)
	breaksBy(t, before, moment(opened(prop("a", data(num(1), "")))), 1, api.RExt)
	breaksBy(t, moment(shut(prop("a", data(num(0), "")))), moment(shut(prop("a", data(num(minus0()), "")))), 1, api.RProp)
	loose := moment(opened(prop("a", data(num(1), "c"))))
	breaksBy(t, loose, moment(opened()), 0, 0)
	other := copied(loose)
	other[0].Proto = ref(1)
	breaksBy(t, loose, other, 0, 0)
}

// turn is a way to break a rule for one object of three.
type turn struct {
	rule int
	do   func(l *[]api.Shape, o int)
}

// fixed is a shape by which every rule can be broken.
func fixed() api.Shape {
	return shut(prop("loose", data(num(7), "wec")), prop("data", data(num(1), "")), prop("get", accessor(ref(1), ref(2), "e")), prop("write", data(num(1), "w")))
}

func turns() []turn {
	l := []turn{
		{api.RLost, func(l *[]api.Shape, o int) { *l = (*l)[:min(o-1, len(*l))] }},
		of(api.RClass, func(s *api.Shape) { s.Class = api.CArray }),
		of(api.RClass, func(s *api.Shape) { s.Class = 0 }),
		of(api.RExt, func(s *api.Shape) { s.Extensible = true }),
		of(api.RKey, func(s *api.Shape) { s.Props = append(s.Props, prop("more", data(num(1), "c"))) }),
		of(api.RKey, func(s *api.Shape) {
			s.Props = slices.Insert(s.Props, 0, api.Prop{Key: sym(1), Desc: accessor(undefined(), undefined(), "")})
		}),
		of(api.RKey, func(s *api.Shape) { s.Props[where(s.Props, str("loose"))].Key = str("other") }),
	}
	for _, v := range []api.Value{ref(2), undefined(), {}, {Kind: api.KNull, Id: 1}, {Kind: api.KNull, Num: minus0()}} {
		l = append(l, of(api.RProto, func(s *api.Shape) { s.Proto = v }))
	}
	for _, k := range []string{"data", "get", "write"} {
		l = append(l, of(api.RProp, func(s *api.Shape) {
			s.Props = slices.DeleteFunc(s.Props, func(p api.Prop) bool { return p.Key == str(k) })
		}))
	}
	for _, p := range []api.Prop{
		prop("data", data(num(2), "")), prop("data", data(text("1"), "")), prop("data", data(num(1), "w")), prop("data", data(num(1), "e")), prop("data", data(num(1), "c")),
		prop("data", accessor(undefined(), undefined(), "")), prop("data", api.Desc{}), prop("data", data(api.Value{Kind: 9}, "")),
		prop("data", api.Desc{Value: num(1), Writable: api.No, Enumerable: api.No}), prop("data", api.Desc{Value: num(1), Enumerable: api.No, Configurable: api.No}),
		prop("get", accessor(ref(2), ref(2), "e")), prop("get", accessor(ref(1), undefined(), "e")), prop("get", accessor(ref(1), ref(2), "")), prop("get", accessor(ref(1), ref(2), "ec")),
		prop("get", data(undefined(), "e")), prop("get", api.Desc{Get: ref(1), Enumerable: api.Yes, Configurable: api.No}),
		prop("write", data(num(1), "we")), prop("write", data(num(1), "wc")), prop("write", accessor(undefined(), undefined(), "")),
	} {
		l = append(l, of(api.RProp, func(s *api.Shape) {
			if at := where(s.Props, p.Key); at >= 0 {
				s.Props[at] = p
			}
		}))
	}
	return l
}

// of is a way to break a rule for an object that is still there.
func of(rule int, do func(s *api.Shape)) turn {
	return turn{rule, func(l *[]api.Shape, o int) {
		if o <= len(*l) {
			do(&(*l)[o-1])
		}
	}}
}

// 10.1: each rule alone, of each object.
func TestRulesAlone(t *testing.T) {
	before := moment(fixed(), fixed(), fixed())
	breaksBy(t, before, copied(before), 0, 0)
	for _, x := range turns() {
		for o := 1; o <= 3; o++ {
			after := copied(before)
			x.do(&after, o)
			breaksBy(t, before, after, o, x.rule)
		}
	}
}

// 10.1: two rules at once: the lesser object first, then the rule ahead in the row.
func TestRulesInPairs(t *testing.T) {
	before := moment(fixed(), fixed(), fixed())
	l := turns()
	for i, x := range l {
		for j, y := range l {
			for o := 1; o <= 3; o++ {
				if i != j {
					after := copied(before)
					x.do(&after, o)
					y.do(&after, o)
					breaksBy(t, before, after, o, min(x.rule, y.rule))
				}
				for p := o + 1; p <= 3; p++ {
					after := copied(before)
					y.do(&after, p)
					x.do(&after, o)
					breaksBy(t, before, after, o, x.rule)
				}
			}
		}
	}
}

// 10.1: what may come about.
func TestRulesKept(t *testing.T) {
	before := moment(fixed(), opened(fixed().Props...))
	for i, do := range []func(l []api.Shape){
		func(l []api.Shape) { l[0].Props = l[0].Props[1:] },
		func(l []api.Shape) { l[0].Props[0].Desc = accessor(ref(1), ref(1), "") },
		func(l []api.Shape) { l[0].Props[0].Desc = api.Desc{} },
		func(l []api.Shape) { l[0].Props[3].Desc = data(text("x"), "w") },
		func(l []api.Shape) { l[0].Props[3].Desc = data(text("x"), "") },
		func(l []api.Shape) { l[0].Props[1], l[0].Props[2] = l[0].Props[2], l[0].Props[1] }, // the order is nobody's matter
		func(l []api.Shape) { l[1].Extensible = false },
		func(l []api.Shape) { l[1].Proto = ref(2) },
		func(l []api.Shape) { l[1].Proto = api.Value{} },
		func(l []api.Shape) { l[1].Props = append(l[1].Props, prop("more", data(num(1), ""))) },
		func(l []api.Shape) {
			l[1].Extensible, l[1].Proto, l[1].Props = false, ref(1), append(l[1].Props, prop("more", data(num(1), "")))
		},
	} {
		after := copied(before)
		do(after)
		if say(before) == say(after) {
			t.Errorf("10.1: row %d turns nothing", i)
		}
		breaksBy(t, before, after, 0, 0)
		breaksBy(t, before, append(after, opened(), api.Shape{}), 0, 0)
	}
	breaksBy(t, nil, nil, 0, 0)
	breaksBy(t, nil, before, 0, 0)
	breaksBy(t, []api.Shape{}, before, 0, 0)
	breaksBy(t, before, nil, 1, api.RLost)
	breaksBy(t, before, before[:1], 2, api.RLost)
	breaksBy(t, moment(opened()), nil, 1, api.RLost)
}

// 10.1: what is the same, of prototypes that are anything, and of values that are fixed.
func TestSamenessInRules(t *testing.T) {
	root := func(v api.Value) []api.Shape {
		s := shut()
		s.Proto = v
		return moment(s)
	}
	hold := func(v api.Value) []api.Shape { return moment(shut(prop("a", data(v, "")))) }
	breaksBy(t, root(num(nan())), root(num(otherNaN())), 0, 0)
	breaksBy(t, hold(num(nan())), hold(num(otherNaN())), 0, 0)
	breaksBy(t, root(api.Value{Num: nan()}), root(api.Value{Num: otherNaN()}), 0, 0)
	all := []api.Value{
		{}, {Num: 1}, {Num: minus0()}, {Id: 1}, {Bool: true}, {Str: "x"}, {Kind: 9}, {Kind: 9, Id: 1},
		undefined(), null(), {Kind: api.KNull, Str: "x"}, num(0), num(minus0()), num(1), num(nan()), text(""), text("x"), ref(1), ref(2), {Kind: api.KRef, Id: 1, Bool: true},
	}
	for i, v := range all {
		for j, w := range all {
			rule, o := 0, 0
			if i != j {
				rule, o = api.RProto, 1
			}
			breaksBy(t, root(v), root(w), o, rule)
		}
	}
}

// 10.1: a property that is not configurable, and whose descriptor is not whole, keeps nothing, not even of itself; one whose Configurable is not No is nobody's matter.
func TestRulesOfAnyDescriptors(t *testing.T) {
	no := api.Desc{Configurable: api.No}
	for _, c := range []struct {
		was, is api.Desc
		rule    int
	}{
		{no, no, api.RProp}, {no, data(num(1), ""), api.RProp}, {data(num(1), ""), no, api.RProp}, {data(num(1), "w"), api.Desc{}, api.RProp},
		{api.Desc{Value: num(1), Get: ref(1), Configurable: api.No}, api.Desc{Value: num(1), Get: ref(1), Configurable: api.No}, api.RProp},
		{data(api.Value{Kind: 9}, ""), data(api.Value{Kind: 9}, ""), api.RProp},
		{api.Desc{}, no, 0}, {api.Desc{Configurable: 3}, api.Desc{}, 0}, {api.Desc{Value: api.Value{Kind: 9}, Configurable: api.Yes}, api.Desc{}, 0},
	} {
		o := 0
		if c.rule != 0 {
			o = 1
		}
		breaksBy(t, moment(opened(prop("a", c.was))), moment(opened(prop("a", c.is))), o, c.rule)
	}
	breaksBy(t, moment(opened(prop("a", no))), moment(opened()), 1, api.RProp)
	breaksBy(t, moment(opened(prop("a", api.Desc{}))), moment(opened()), 0, 0)
}

// 10.1: of a key that stands twice the first one is the property, at both moments; any bytes are a key.
func TestRulesOfKeysTwice(t *testing.T) {
	one, two, loose := prop("a", data(num(1), "")), prop("a", data(num(2), "")), prop("a", data(num(1), "wec"))
	for _, c := range []struct {
		was, is []api.Prop
		rule    int
	}{
		{[]api.Prop{one, two}, []api.Prop{one}, 0},
		{[]api.Prop{one, two}, []api.Prop{two}, api.RProp},
		{[]api.Prop{one, two}, []api.Prop{two, one}, api.RProp},
		{[]api.Prop{loose, two}, nil, 0},
		{[]api.Prop{loose, two}, []api.Prop{one}, 0},
		{[]api.Prop{one}, []api.Prop{one, two}, 0},
		{[]api.Prop{one}, []api.Prop{two, one}, api.RProp},
		{[]api.Prop{{Key: api.Key{Str: "a", Sym: 1}, Desc: one.Desc}}, []api.Prop{one}, api.RKey},
		{[]api.Prop{{Key: api.Key{Str: "\xff"}, Desc: one.Desc}}, []api.Prop{{Key: api.Key{Str: "\xff"}, Desc: one.Desc}}, 0},
		{[]api.Prop{{Key: api.Key{Str: "\xff"}, Desc: one.Desc}}, []api.Prop{{Key: api.Key{Str: "\xff"}, Desc: two.Desc}}, api.RProp},
		{[]api.Prop{{Key: sym(-1), Desc: one.Desc}}, nil, api.RProp},
	} {
		o := 0
		if c.rule != 0 {
			o = 1
		}
		breaksBy(t, moment(shut(c.was...)), moment(shut(c.is...)), o, c.rule)
	}
}

// 10.1, held against the second reading.
func TestBrokenAtRandom(t *testing.T) {
	t.Parallel()
	var met [7]int
	for seed := range int64(20000) {
		c := newChance(seed, seed%2 == 0)
		before := c.moment()
		after := c.turned(before)
		o, rule := brokenBy(before, after)
		breaksBy(t, before, after, o, rule)
		met[rule]++
	}
	for rule, n := range met {
		if n < 100 {
			t.Errorf("the rule %d was met %d times", rule, n)
		}
	}
}
