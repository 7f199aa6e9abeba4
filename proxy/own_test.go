package proxy_test

// 19.4: own properties, which a trap tells as objects.

import (
	"slices"
	"testing"

	"cameo/api"
	"cameo/heap"
	"cameo/proxy"
)

// ownSteps is what GetOwnProperty of a goes through up to the trap's answer, and what follows.
func ownSteps(more ...string) []string {
	return append([]string{silent, "get H getOwnPropertyDescriptor H", `call f H T "a"`}, more...)
}

// toSteps is what records.To asks of R, which has these fields.
func toSteps(fields ...string) []string {
	var l []string
	for _, k := range []string{"enumerable", "configurable", "value", "writable", "get", "set"} {
		l = append(l, "has R "+k)
		if slices.Contains(fields, k) {
			l = append(l, "get R "+k+" R")
		}
	}
	return l
}

func flag(x api.Tri) api.Value { return api.Value{Kind: api.KBool, Bool: x == api.Yes} }

// fields is a descriptor as an object has it, in another order than it is asked for, and the names of these.
func fields(d api.Desc) ([]api.Prop, []string) {
	var l []api.Prop
	var names []string
	add := func(k string, there bool, v api.Value) {
		if there {
			l, names = append(l, has(k, v)), append(names, k)
		}
	}
	add("set", d.Set.Kind != api.KNone, d.Set)
	add("configurable", d.Configurable != api.Absent, flag(d.Configurable))
	add("value", d.Value.Kind != api.KNone, d.Value)
	add("get", d.Get.Kind != api.KNone, d.Get)
	add("enumerable", d.Enumerable != api.Absent, flag(d.Enumerable))
	add("writable", d.Writable != api.Absent, flag(d.Writable))
	return l, names
}

// targetOf is a new target, whose property a is that; the zero descriptor: it has none.
func targetOf(s stage, fixed bool, d api.Desc) int {
	var l []api.Prop
	if d != (api.Desc{}) {
		l = append(l, is("a", d))
	}
	o := s.seer("T", null(), l...)
	if fixed {
		fix(s.h, o)
	}
	return o
}

// G and S are functions that properties have as getters and setters: they are the first two objects of each scene.
var funcG, funcS = ref(1), ref(2)

func getters(s stage) {
	s.caller("G", num(1))
	s.caller("S", num(2))
}

// 19.4, where the trap tells that there is none.
func TestOwnHidden(t *testing.T) {
	build := func(fixed bool, d api.Desc, answer api.Value) func(s stage) act {
		return func(s stage) act {
			getters(s)
			return getOwn(s.trapped(targetOf(s, fixed, d), "getOwnPropertyDescriptor", answer), str("a"))
		}
	}
	var l []scene
	for _, fixed := range []bool{false, true} {
		l = append(l, scene{name: "nothing", build: build(fixed, api.Desc{}, undefined()), steps: ownSteps("own T a"), want: own{}})
		for _, d := range []api.Desc{shut(num(1)), data(num(1), api.Yes, api.No, api.No), accessor(funcG, funcS, api.Yes, api.No), accessor(undefined(), undefined(), api.No, api.No)} {
			l = append(l, scene{name: "not configurable", build: build(fixed, d, undefined()), steps: ownSteps("own T a"), wrong: typeError()})
		}
		for _, d := range []api.Desc{open(num(1)), data(num(1), api.No, api.No, api.Yes), accessor(funcG, undefined(), api.No, api.Yes)} {
			if fixed {
				l = append(l, scene{name: "configurable, fixed", build: build(fixed, d, undefined()), steps: ownSteps("own T a", "ext T"), wrong: typeError()})
			} else {
				l = append(l, scene{name: "configurable", build: build(fixed, d, undefined()), steps: ownSteps("own T a", "ext T"), want: own{}})
			}
		}
		for _, v := range plain() {
			if v != undefined() {
				l = append(l, scene{name: "no answer " + tell(v), build: build(fixed, shut(num(1)), v), steps: ownSteps(), wrong: typeError()})
			}
		}
	}
	scenes(t, l)
}

// told is a target's property, and what a trap tells of it as an object.
type told struct {
	name  string
	fixed bool
	now   api.Desc
	says  api.Desc
	want  api.Desc // the zero one: a TypeError
}

func tolds() []told {
	g, s, u := funcG, funcS, undefined()
	none := api.Desc{}
	v := num(1)
	return []told{
		{"new", false, none, open(v), open(v)},
		{"new, an accessor", false, none, accessor(g, s, api.No, api.Yes), accessor(g, s, api.No, api.Yes)},
		{"new, filled", false, none, api.Desc{Configurable: api.Yes}, data(u, api.No, api.No, api.Yes)},
		{"new, filled, an accessor", false, none, api.Desc{Set: s, Configurable: api.Yes}, accessor(u, s, api.No, api.Yes)},
		{"new, not extensible", true, none, open(v), none},
		{"new, not configurable", false, none, shut(v), none},
		{"new, an accessor that is not configurable", false, none, accessor(g, u, api.Yes, api.No), none},
		{"new, nothing told", false, none, none, none},
		{"neither extensible nor configurable", true, none, shut(v), none},
		{"as it is", false, open(v), open(v), open(v)},
		{"as it is, not extensible", true, open(v), open(v), open(v)},
		{"another value", false, open(v), open(num(2)), open(num(2))},
		{"another kind", false, open(v), accessor(g, u, api.Yes, api.Yes), accessor(g, u, api.Yes, api.Yes)},
		{"other flags", true, open(v), data(num(3), api.No, api.No, api.Yes), data(num(3), api.No, api.No, api.Yes)},
		{"an accessor as data", true, accessor(g, s, api.No, api.Yes), open(v), open(v)},
		{"configurable, told as not", false, open(v), data(v, api.Yes, api.Yes, api.No), none},
		{"configurable, told as fixed", false, open(v), shut(v), none},
		{"configurable, read-only, told as fixed", true, data(v, api.No, api.Yes, api.Yes), shut(v), none},
		{"an accessor, told as not configurable", false, accessor(g, s, api.No, api.Yes), accessor(g, s, api.No, api.No), none},
		{"nothing told, configurable", false, open(v), none, none},
		{"fixed, as it is", false, shut(v), shut(v), shut(v)},
		{"fixed, not extensible, as it is", true, shut(v), shut(v), shut(v)},
		{"fixed, told as configurable", false, shut(v), data(v, api.No, api.Yes, api.Yes), none},
		{"fixed, told as not enumerable", false, shut(v), data(v, api.No, api.No, api.No), none},
		{"fixed, told as writable", false, shut(v), data(v, api.Yes, api.Yes, api.No), none},
		{"fixed, another value", false, shut(v), shut(num(2)), none},
		{"fixed, another nought", false, shut(num(0)), shut(num(below0)), none},
		{"fixed, not a number", false, shut(num(nan)), shut(num(nan)), shut(num(nan))},
		{"fixed, told as an accessor", false, shut(v), accessor(u, u, api.Yes, api.No), none},
		{"fixed, nothing told", false, data(u, api.No, api.No, api.No), none, data(u, api.No, api.No, api.No)},
		{"fixed, value alone", false, data(v, api.No, api.No, api.No), api.Desc{Value: v}, data(v, api.No, api.No, api.No)},
		{"fixed, no value told", false, data(v, api.No, api.No, api.No), api.Desc{Writable: api.No}, none},
		{"writable, as it is", true, data(v, api.Yes, api.Yes, api.No), data(v, api.Yes, api.Yes, api.No), data(v, api.Yes, api.Yes, api.No)},
		{"writable, another value", true, data(v, api.Yes, api.Yes, api.No), data(num(2), api.Yes, api.Yes, api.No), data(num(2), api.Yes, api.Yes, api.No)},
		{"writable, told as not", true, data(v, api.Yes, api.Yes, api.No), shut(v), none},
		{"writable, not said", false, data(v, api.Yes, api.No, api.No), api.Desc{Value: v}, none},
		{"an accessor, as it is", false, accessor(g, s, api.Yes, api.No), accessor(g, s, api.Yes, api.No), accessor(g, s, api.Yes, api.No)},
		{"an accessor, another getter", false, accessor(g, s, api.Yes, api.No), accessor(s, s, api.Yes, api.No), none},
		{"an accessor, no setter", false, accessor(g, s, api.Yes, api.No), accessor(g, u, api.Yes, api.No), none},
		{"an accessor, setter not told", false, accessor(g, u, api.Yes, api.No), api.Desc{Get: g, Enumerable: api.Yes}, accessor(g, u, api.Yes, api.No)},
		{"an accessor, told as data", false, accessor(u, u, api.Yes, api.No), shut(u), none},
	}
}

// 19.4, where the trap tells a property.
func TestOwnTold(t *testing.T) {
	for _, x := range tolds() {
		props, names := fields(x.says)
		sc := scene{name: x.name, steps: slices.Concat(ownSteps("own T a", "ext T"), toSteps(names...)), want: own{x.want, true}, build: func(s stage) act {
			getters(s)
			r := s.seer("R", null(), props...)
			return getOwn(s.trapped(targetOf(s, x.fixed, x.now), "getOwnPropertyDescriptor", ref(r)), str("a"))
		}}
		if x.want == (api.Desc{}) {
			sc.want, sc.wrong = nil, typeError()
		}
		scenes(t, []scene{sc})
	}
}

// 19.4: what is no descriptor throws by itself, behind the target being looked at, whatever that has.
func TestOwnToldWrong(t *testing.T) {
	for _, x := range []struct {
		name  string
		props []api.Prop
		steps []string
	}{
		{"a getter that is none", []api.Prop{has("get", num(5))}, toSteps("get")[:6]},
		{"a setter that is none", []api.Prop{has("set", null())}, toSteps("set")},
		{"both", []api.Prop{has("get", undefined()), has("value", num(1))}, toSteps("get", "value")},
		{"writable, and a setter", []api.Prop{has("set", funcG), has("writable", undefined())}, toSteps("set", "writable")},
	} {
		for _, now := range []api.Desc{{}, open(num(1)), shut(num(1))} {
			scenes(t, []scene{{name: x.name, steps: slices.Concat(ownSteps("own T a", "ext T"), x.steps), wrong: typeError(), build: func(s stage) act {
				getters(s)
				r := s.seer("R", null(), x.props...)
				return getOwn(s.trapped(targetOf(s, true, now), "getOwnPropertyDescriptor", ref(r)), str("a"))
			}}})
		}
	}
}

// 19.4: an inherited field counts; one that a getter tells runs it.
func TestOwnToldByGetters(t *testing.T) {
	scenes(t, []scene{{name: "inherited and got", want: own{data(num(7), api.No, api.No, api.Yes), true}, steps: ownSteps("own T a", "ext T",
		"has R enumerable", "has B enumerable", "has R configurable", "has B configurable", "get R configurable R", "get B configurable R",
		"has R value", "get R value R", "call V R", "has R writable", "has B writable", "has R get", "has B get", "has R set", "has B set"), build: func(s stage) act {
		getters(s)
		base := s.seer("B", null(), has("configurable", text("x")))
		r := s.seer("R", ref(base), got("value", s.caller("V", num(7))))
		return getOwn(s.trapped(targetOf(s, false, api.Desc{}), "getOwnPropertyDescriptor", ref(r)), str("a"))
	}}})
}

// 19.4: the target is looked at ahead of what records.To runs: what that changes is too late to be seen.
func TestOwnChangedMeanwhile(t *testing.T) {
	gone := func(h *heap.Heap, o int) { heap.Ordinary{}.Delete(h, o, str("a")) }
	set := func(d api.Desc) func(h *heap.Heap, o int) {
		return func(h *heap.Heap, o int) { heap.Ordinary{}.DefineOwnProperty(h, o, str("a"), d) }
	}
	both := func(l ...func(h *heap.Heap, o int)) func(h *heap.Heap, o int) {
		return func(h *heap.Heap, o int) {
			for _, do := range l {
				do(h, o)
			}
		}
	}
	v := num(1)
	for _, x := range []struct {
		name   string
		fixed  bool
		now    api.Desc
		change func(h *heap.Heap, o int)
		says   api.Desc
		want   api.Desc // the zero one: a TypeError
	}{
		{"not extensible now", false, api.Desc{}, fix, open(v), open(v)},
		{"gone now", false, open(v), gone, open(v), open(v)},
		{"gone now, and not extensible", false, open(v), both(gone, fix), open(v), open(v)},
		{"not configurable now", false, open(v), set(shut(v)), open(v), open(v)},
		{"not configurable now, told so", false, open(v), set(shut(v)), shut(v), api.Desc{}},
		{"there now, told as fixed", false, api.Desc{}, set(shut(v)), shut(v), api.Desc{}},
		{"read-only now", false, data(v, api.Yes, api.No, api.No), set(api.Desc{Writable: api.No}), data(v, api.Yes, api.No, api.No), data(v, api.Yes, api.No, api.No)},
		{"read-only now, told so", false, data(v, api.Yes, api.No, api.No), set(api.Desc{Writable: api.No}), data(v, api.No, api.No, api.No), api.Desc{}},
		{"another value now", false, data(v, api.Yes, api.No, api.No), set(api.Desc{Value: num(2), Writable: api.No}), data(v, api.Yes, api.No, api.No), data(v, api.Yes, api.No, api.No)},
		{"an accessor now", true, open(v), set(accessor(funcG, undefined(), api.No, api.No)), open(v), open(v)},
	} {
		props, names := fields(x.says)
		names = append(names, "enumerable")
		steps := toSteps(names...)
		steps = slices.Insert(steps, 2, "call V R")
		sc := scene{name: x.name, steps: slices.Concat(ownSteps("own T a", "ext T"), steps), want: own{x.want, true}, build: func(s stage) act {
			getters(s)
			target := targetOf(s, x.fixed, x.now)
			change := s.doing("V", flag(x.says.Enumerable), func() { x.change(s.h, target) })
			r := s.seer("R", null(), slices.DeleteFunc(slices.Clone(props), func(p api.Prop) bool { return p.Key == str("enumerable") })...)
			lay(t, s.h, r, got("enumerable", change))
			return getOwn(s.trapped(target, "getOwnPropertyDescriptor", ref(r)), str("a"))
		}}
		if x.want == (api.Desc{}) {
			sc.want, sc.wrong = nil, typeError()
		}
		scenes(t, []scene{sc})
	}
}

// 19.4: where the fields of what is told revoke the proxy, it is still the one that was entered.
func TestOwnRevokedMeanwhile(t *testing.T) {
	scenes(t, []scene{{name: "revoked", want: own{data(undefined(), api.No, api.No, api.Yes), true}, steps: slices.Concat(ownSteps("own T a", "ext T"), slices.Insert(toSteps("enumerable", "configurable"), 2, "call V R")), build: func(s stage) act {
		var p int
		r := s.seer("R", null(), got("enumerable", s.doing("V", no(), s.revoke(&p))), has("configurable", yes()))
		p = s.trapped(targetOf(s, false, api.Desc{}), "getOwnPropertyDescriptor", ref(r))
		return getOwn(p, str("a"))
	}, left: func(t *testing.T, h *heap.Heap, n int) {
		target, handler, e := proxy.Parts(h, 6)
		if gone := n > 7; e != api.OK || (target == null() && handler == null()) != gone {
			t.Errorf("behind %d steps: %v, %v, %v", n, target, handler, e)
		}
	}}})
}

// 19.4: the key is told as it is, a symbol as a symbol.
func TestOwnKeys(t *testing.T) {
	for _, k := range []api.Key{str(""), str("0"), str("length"), str("\xed\xa0\xbd"), sym(1), sym(65536)} {
		word := tell(text(k.Str))
		if k.Sym != 0 {
			word = tell(symbol(k.Sym))
		}
		scenes(t, []scene{{name: nameOf(k), want: own{}, steps: []string{silent, "get H getOwnPropertyDescriptor H", "call f H T " + word, "own T " + nameOf(k)}, build: func(s stage) act {
			return getOwn(s.trapped(s.seer("T", null()), "getOwnPropertyDescriptor", undefined()), k)
		}}})
	}
}
