package proxy_test

// 19.6 to 19.9: HasProperty, Get, Set and Delete.

import (
	"strings"
	"testing"

	"cameo/api"
)

// propScene is a method of a proxy, whose trap answers a value; want nil: a TypeError.
func propScene(name string, fixed bool, now api.Desc, x act, trap string, answer api.Value, given string, more []string, want any) scene {
	sc := scene{name: name, steps: append([]string{silent, "get H " + trap + " H", strings.TrimSpace("call f H T " + given)}, more...), want: want, build: func(s stage) act {
		getters(s)
		return x.of(s.trapped(targetOf(s, fixed, now), trap, answer))
	}}
	if want == nil {
		sc.wrong = typeError()
	}
	return sc
}

// standing is properties of every sort that are not configurable, moving such that are.
func standing() []api.Desc {
	return []api.Desc{shut(num(1)), data(num(1), api.Yes, api.No, api.No), data(undefined(), api.No, api.No, api.No), accessor(funcG, funcS, api.Yes, api.No), accessor(undefined(), funcS, api.No, api.No), accessor(funcG, undefined(), api.No, api.No), accessor(undefined(), undefined(), api.No, api.No)}
}

func moving() []api.Desc {
	var l []api.Desc
	for _, d := range standing() {
		d.Configurable = api.Yes
		l = append(l, d)
	}
	return l
}

// 19.6 and 19.9: a trap that says that there is none, or that it is gone.
func TestHasAndDelete(t *testing.T) {
	type side struct {
		x    act
		trap string
		gone []api.Value // answers by which there is none
		not  []api.Value // answers that need no look
		none bool        // what the method answers of the first, its opposite of the second
	}
	for _, m := range []side{
		{hasProp(0, str("a")), "has", falsy(), append(truthy(), ref(1)), false},
		{deletes(0, str("a")), "deleteProperty", append(truthy(), ref(1)), falsy(), true},
	} {
		var l []scene
		add := func(name string, fixed bool, now api.Desc, v api.Value, more []string, want any) {
			l = append(l, propScene(m.trap+" "+name+" "+tell(v), fixed, now, m.x, m.trap, v, `"a"`, more, want))
		}
		for _, fixed := range []bool{false, true} {
			for _, v := range m.gone {
				add("nothing", fixed, api.Desc{}, v, []string{"own T a"}, m.none)
			}
			for _, v := range m.not {
				for _, d := range append(standing(), api.Desc{}, open(num(1))) {
					add("said otherwise", fixed, d, v, nil, !m.none)
				}
			}
			for _, d := range standing() {
				add("not configurable", fixed, d, m.gone[0], []string{"own T a"}, nil)
			}
		}
		for _, d := range moving() {
			add("configurable", false, d, m.gone[0], []string{"own T a", "ext T"}, m.none)
			add("configurable, not extensible", true, d, m.gone[0], []string{"own T a", "ext T"}, nil)
		}
		scenes(t, l)
	}
}

// 19.6 looks at the target's own properties alone: an inherited one does not count.
func TestHasInherited(t *testing.T) {
	scenes(t, []scene{{name: "inherited", steps: []string{silent, "get H has H", `call f H T "a"`, "own T a"}, want: false, build: func(s stage) act {
		base := s.seer("B", null(), is("a", shut(num(1))))
		return hasProp(s.trapped(s.fixed("T", ref(base)), "has", no()), str("a"))
	}}})
}

// 19.7
func TestGet(t *testing.T) {
	look := []string{"own T a"}
	var l []scene
	add := func(name string, now api.Desc, answer api.Value, want any) {
		for _, fixed := range []bool{false, true} {
			l = append(l, propScene(name+" "+tell(answer), fixed, now, gets(0, str("a"), text("r")), "get", answer, `"a" "r"`, look, want))
		}
	}
	all := append(plain(), ref(1))
	for _, v := range all {
		add("nothing", api.Desc{}, v, v)
		for _, d := range moving() {
			add("configurable", d, v, v)
		}
		add("writable", data(num(1), api.Yes, api.No, api.No), v, v)
		add("an accessor", accessor(funcG, undefined(), api.No, api.No), v, v)
		add("both", accessor(funcG, funcS, api.Yes, api.No), v, v)
		for _, w := range all {
			if sameValue(v, w) {
				add("fixed", data(w, api.No, api.No, api.No), v, v)
			} else {
				add("fixed, another one", shut(w), v, nil)
			}
		}
		for _, set := range []api.Value{undefined(), funcS} {
			if v == undefined() {
				add("no getter", accessor(undefined(), set, api.No, api.No), v, v)
			} else {
				add("no getter", accessor(undefined(), set, api.No, api.No), v, nil)
			}
		}
	}
	whole(t, l)
	scenes(t, l[:20])
	scenes(t, l[len(l)-4:])
}

// 19.8
func TestSet(t *testing.T) {
	look := []string{"own T a"}
	var l []scene
	add := func(name string, now api.Desc, v, answer api.Value, more []string, want any) {
		for _, fixed := range []bool{false, true} {
			given := `"a" ` + tell(v) + " null"
			if v == ref(1) {
				given = `"a" G null`
			}
			l = append(l, propScene(name+" "+tell(v), fixed, now, sets(0, str("a"), v, null()), "set", answer, given, more, want))
		}
	}
	all := append(plain(), ref(1))
	for _, v := range all {
		add("nothing", api.Desc{}, v, yes(), look, true)
		for _, d := range moving() {
			add("configurable", d, v, yes(), look, true)
		}
		add("writable", data(num(1), api.Yes, api.No, api.No), v, yes(), look, true)
		add("an accessor", accessor(undefined(), funcS, api.No, api.No), v, yes(), look, true)
		for _, w := range all {
			if sameValue(v, w) {
				add("fixed", data(w, api.No, api.No, api.No), v, yes(), look, true)
			} else {
				add("fixed, another one", shut(w), v, yes(), look, nil)
			}
		}
		for _, get := range []api.Value{undefined(), funcG} {
			add("no setter", accessor(get, undefined(), api.No, api.No), v, yes(), look, nil)
		}
	}
	for _, d := range append(standing(), api.Desc{}, open(num(1))) {
		for _, v := range falsy() {
			add("not done", d, num(7), v, nil, false)
		}
	}
	for _, v := range append(truthy(), ref(1)) {
		add("done", shut(num(1)), num(1), v, look, true)
		add("said to be done", shut(num(1)), num(2), v, look, nil)
	}
	whole(t, l)
	scenes(t, l[:20])
	scenes(t, l[len(l)-20:])
}

// 19.7, 19.8: any receiver is handed on as it is, the proxy itself, too; and any key.
func TestReceivers(t *testing.T) {
	for _, k := range []api.Key{str(""), str("0"), str("\xed\xa0\xbd"), sym(1), sym(65536)} {
		name := tell(text(k.Str))
		if k.Sym != 0 {
			name = tell(symbol(k.Sym))
		}
		for _, receiver := range append(plain(), ref(1), ref(2), ref(3), ref(4)) { // T, f, H and the proxy
			word := tell(receiver)
			if receiver.Kind == api.KRef {
				word = []string{"T", "f", "H", "P"}[receiver.Id-1]
			}
			whole(t, []scene{
				{name: "Get", steps: []string{silent, "get H get H", "call f H T " + name + " " + word, "own T " + nameOf(k)}, want: num(5), build: func(s stage) act {
					return gets(s.trapped(s.seer("T", null()), "get", num(5)), k, receiver)
				}},
				{name: "Set", steps: []string{silent, "get H set H", "call f H T " + name + " 5 " + word, "own T " + nameOf(k)}, want: true, build: func(s stage) act {
					return sets(s.trapped(s.seer("T", null()), "set", num(5)), k, num(5), receiver)
				}},
			})
		}
	}
}
