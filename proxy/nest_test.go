package proxy_test

// Proxies among themselves: as targets, handlers, prototypes, receivers and traps.

import (
	"strings"
	"testing"

	"cameo/api"
)

// A proxy of a proxy, without traps, asks both handlers, the outer one first.
func TestProxyOfProxy(t *testing.T) {
	for _, m := range thirteen() {
		x := m.scene("twice", nil, []string{"get K " + m.trap + " K", silent, m.asks(), m.line}, m.bare, nil)
		x.build = func(s stage) act {
			target := m.cast(s)
			inner := s.proxy("I", target, s.seer("H", null()))
			return m.act.of(s.proxy("P", inner, s.seer("K", null())))
		}
		// A trap of the inner one is given its own target.
		first := m.takes[0]
		v := first.answers[0]
		y := m.scene("the inner one's trap", nil, append([]string{"get K " + m.trap + " K", silent, m.asks(), m.called()}, first.more...), m.comes(first, v), nil)
		y.makes = m.makes
		y.build = func(s stage) act {
			target := m.cast(s)
			inner := s.proxy("I", target, s.seer("H", null(), has(m.trap, ref(s.caller("f", v)))))
			return m.act.of(s.proxy("P", inner, s.seer("K", null())))
		}
		scenes(t, []scene{x, y})
	}
}

// inner is what a step of a proxy's target costs more, where that is a proxy without traps: its own entry, and its handler being asked.
func inner(step string) []string {
	words := strings.Fields(step)
	trap := map[string]string{"ext": "isExtensible", "proto": "getPrototypeOf", "own": "getOwnPropertyDescriptor", "keys": "ownKeys"}[words[0]]
	if trap == "" || words[1] != "T" {
		return []string{step}
	}
	return []string{silent, "get K " + trap + " K", step}
}

// What the outer proxy asks of its target, the inner one asks of its own.
func TestTrapOverProxy(t *testing.T) {
	for _, m := range thirteen() {
		for _, x := range m.takes {
			v := x.answers[0]
			steps := []string{m.asks(), strings.Replace(m.called(), "call f H T", "call f H I", 1)}
			for _, step := range x.more {
				steps = append(steps, inner(step)...)
			}
			sc := m.scene("over a proxy", nil, steps, m.comes(x, v), nil)
			sc.makes = m.makes
			sc.build = func(s stage) act {
				target := m.cast(s)
				in := s.proxy("I", target, s.seer("K", null()))
				return m.act.of(s.proxy("P", in, s.seer("H", null(), has(m.trap, ref(s.caller("f", v))))))
			}
			scenes(t, []scene{sc})
		}
	}
}

// A handler that is a proxy is asked by its own traps, and is the receiver.
func TestHandlerIsProxy(t *testing.T) {
	for _, m := range thirteen() {
		first := m.takes[0]
		v := first.answers[0]
		called := strings.Replace(m.called(), "call f H T", "call f J T", 1)
		x := m.scene("without traps", nil, append([]string{silent, "get K get K", "get H " + m.trap + " J", called}, first.more...), m.comes(first, v), nil)
		x.build = func(s stage) act {
			target := m.cast(s)
			h := s.seer("H", null(), has(m.trap, ref(s.caller("f", v))))
			return m.act.of(s.proxy("P", target, s.proxy("J", h, s.seer("K", null()))))
		}
		// What the handler has is what its own handler says.
		y := m.scene("with a trap", nil, append([]string{silent, "get K get K", `call g K H "` + m.trap + `" J`, "own H " + m.trap, called}, first.more...), m.comes(first, v), nil)
		y.build = func(s stage) act {
			target := m.cast(s)
			g := s.caller("g", ref(s.caller("f", v)))
			return m.act.of(s.proxy("P", target, s.proxy("J", s.seer("H", null()), s.seer("K", null(), has("get", ref(g))))))
		}
		none := m.scene("with a trap that tells none", nil, []string{silent, "get K get K", `call g K H "` + m.trap + `" J`, "own H " + m.trap, m.line}, m.bare, nil)
		none.build = func(s stage) act {
			target := m.cast(s)
			h := s.seer("H", null(), has(m.trap, ref(s.ending("f", thrown(null())))))
			return m.act.of(s.proxy("P", target, s.proxy("J", h, s.seer("K", null(), has("get", ref(s.caller("g", undefined())))))))
		}
		gone := m.scene("revoked", nil, []string{silent}, nil, typeError())
		gone.build = func(s stage) act {
			target := m.cast(s)
			j := s.proxy("J", s.seer("H", null()), s.seer("K", null()))
			s.revoke(&j)()
			return m.act.of(s.proxy("P", target, j))
		}
		x.makes, y.makes = m.makes, m.makes
		scenes(t, []scene{x, y, none, gone})
	}
}

// A trap that is a proxy itself is called by its own trap, or calls its target.
func TestTrapIsProxy(t *testing.T) {
	for _, m := range thirteen() {
		first := m.takes[0]
		v := first.answers[0]
		x := m.scene("a proxy", nil, append([]string{m.asks(), silent, "get K apply K", m.called()}, first.more...), m.comes(first, v), nil)
		x.makes = m.makes
		x.build = func(s stage) act {
			target := m.cast(s)
			f := s.proxy("F", s.caller("f", v), s.seer("K", null()))
			return m.act.of(s.proxy("P", target, s.seer("H", null(), has(m.trap, ref(f)))))
		}
		scenes(t, []scene{x})
	}
}

// Objects whose prototype is a proxy ask it, with themselves as the receiver.
func TestPrototypeIsProxy(t *testing.T) {
	build := func(x act, trap string, answer api.Value) func(s stage) act {
		return func(s stage) act {
			getters(s)
			target := s.seer("T", null())
			var props []api.Prop
			if trap != "" {
				props = append(props, has(trap, ref(s.caller("f", answer))))
			}
			p := s.proxy("P", target, s.seer("H", null(), props...))
			return x.of(s.seer("X", ref(p)))
		}
	}
	a := str("a")
	scenes(t, []scene{
		{name: "Get", steps: []string{"get X a 5", silent, "get H get H", `call f H T "a" 5`, "own T a"}, want: num(7), build: build(gets(0, a, num(5)), "get", num(7))},
		{name: "Get without a trap", steps: []string{"get X a 5", silent, "get H get H", "get T a 5"}, want: undefined(), build: build(gets(0, a, num(5)), "", null())},
		{name: "HasProperty", steps: []string{"has X a", silent, "get H has H", `call f H T "a"`}, want: true, build: build(hasProp(0, a), "has", num(7))},
		{name: "HasProperty without a trap", steps: []string{"has X a", silent, "get H has H", "has T a"}, want: false, build: build(hasProp(0, a), "", null())},
		{name: "Set", steps: []string{"set X a 6 5", silent, "get H set H", `call f H T "a" 6 5`, "own T a"}, want: true, build: build(sets(0, a, num(6), num(5)), "set", num(7))},
		{name: "Set without a trap", steps: []string{"set X a 6 X", silent, "get H set H", "set T a 6 X", "own X a", "define X a value=6,w+,e+,c+"}, want: true, build: func(s stage) act {
			x := build(sets(0, a, num(6), undefined()), "", null())(s)
			x.receiver = ref(x.o)
			return x
		}},
		{name: "GetOwnProperty asks nobody", steps: []string{"own X a"}, want: own{}, build: build(getOwn(0, a), "", null())},
		{name: "Delete asks nobody", steps: []string{"delete X a"}, want: true, build: build(deletes(0, a), "", null())},
		{name: "GetPrototypeOf tells it", steps: []string{"proto X"}, want: ref(5), build: build(getProto(0), "", null())},
	})
}

// A proxy as the receiver of Set is asked, and defines, by its traps.
func TestReceiverIsProxy(t *testing.T) {
	a := str("a")
	itself := func(handler func(s stage) int) func(s stage) act {
		return func(s stage) act {
			p := s.proxy("P", s.seer("T", null()), handler(s))
			return sets(p, a, num(6), ref(p))
		}
	}
	scenes(t, []scene{
		{name: "itself, without traps", want: true, steps: []string{silent, "get H set H", "set T a 6 P", silent, "get H getOwnPropertyDescriptor H", "own T a", silent, "get H defineProperty H", "define T a value=6,w+,e+,c+"},
			build: itself(func(s stage) int { return s.seer("H", null()) })},
		{name: "itself, a trap that defines nothing", want: false, makes: 1, steps: []string{silent, "get H set H", "set T a 6 P", silent, "get H getOwnPropertyDescriptor H", "own T a", silent, "get H defineProperty H", `call f H T "a" #60`},
			build: itself(func(s stage) int { return s.seer("H", null(), has("defineProperty", ref(s.caller("f", no())))) })},
		{name: "itself, a property that is told", want: true, steps: []string{silent, "get H set H", "set T a 6 P", silent, "get H getOwnPropertyDescriptor H", `call f H T "a"`, "own T a", "ext T",
			"has R enumerable", "has R configurable", "get R configurable R", "has R value", "has R writable", "get R writable R", "has R get", "has R set", silent, "get H defineProperty H", "define T a value=6"},
			build: itself(func(s stage) int {
				r := s.seer("R", null(), has("configurable", yes()), has("writable", yes()))
				return s.seer("H", null(), has("getOwnPropertyDescriptor", ref(s.caller("f", ref(r)))))
			})},
		{name: "of another object", want: true, steps: []string{"set X a 6 P", silent, "get H getOwnPropertyDescriptor H", "own T a", silent, "get H defineProperty H", "define T a value=6,w+,e+,c+"}, build: func(s stage) act {
			p := s.proxy("P", s.seer("T", null()), s.seer("H", null()))
			return sets(s.seer("X", null()), a, num(6), ref(p))
		}},
		{name: "of another object, read-only", want: false, steps: []string{"set X a 6 P", silent, "get H getOwnPropertyDescriptor H", "own T a"}, build: func(s stage) act {
			p := s.proxy("P", s.seer("T", null(), is("a", shut(num(1)))), s.seer("H", null()))
			return sets(s.seer("X", null()), a, num(6), ref(p))
		}},
		{name: "a getter", want: num(3), steps: []string{silent, "get H get H", "get T a P", "call G P"}, build: func(s stage) act {
			g := s.caller("G", num(3))
			p := s.proxy("P", s.seer("T", null(), got("a", g)), s.seer("H", null()))
			return gets(p, a, ref(p))
		}},
	})
}

// An object may have a proxy of itself as its prototype: what goes round ends by depth, or by fuel.
func TestRound(t *testing.T) {
	h := newHeap(t, 9, 100000, 100)
	o, handler := ordinary(t, h, null()), ordinary(t, h, null())
	p := of(t, h, o, handler)
	setProto(o, ref(p)).is(t, h, 1, true, nil)
	getProto(o).is(t, h, 1, ref(p), nil)
	getProto(p).is(t, h, 3, ref(p), nil)
	for _, x := range []act{gets(o, str("a"), null()), hasProp(o, str("a")), sets(o, str("a"), num(1), ref(o)), gets(p, str("a"), null()), hasProp(p, str("a"))} {
		h.Refuel(1000)
		if s, err := x.played(h); s != "" || err != api.ErrDepth {
			t.Errorf("%s: %s, %v", x.name, s, err)
		}
		h.Refuel(50)
		if s, err := x.played(h); s != "" || err != api.ErrFuel || h.Fuel() != 0 {
			t.Errorf("%s: %s, %v", x.name, s, err)
		}
	}
	h.Refuel(1000)
	defines(p, str("a"), open(num(1))).is(t, h, 3, true, nil)
	gets(p, str("a"), null()).is(t, h, 3, num(1), nil)

	// A handler whose prototype is the proxy itself asks for its traps for ever.
	b := ordinary(t, h, null())
	q := of(t, h, o, b)
	setProto(b, ref(q)).is(t, h, 1, true, nil)
	for _, m := range thirteen() {
		x := m.act.of(q)
		if x.name == "Call" || x.name == "Construct" {
			continue // o cannot be called
		}
		h.Refuel(1000)
		if s, err := x.played(h); s != "" || err != api.ErrDepth {
			t.Errorf("%s: %s, %v", x.name, s, err)
		}
	}
}

// 9.2: what a proxy leads to is not looked at, where a prototype is set.
func TestPrototypesBehindProxies(t *testing.T) {
	h := newHeap(t, 9, 1000, 9)
	a, handler := ordinary(t, h, null()), ordinary(t, h, null())
	b := ordinary(t, h, ref(a))
	p := of(t, h, b, handler)
	setProto(p, ref(p)).is(t, h, 3, true, nil) // b has its proxy as its prototype now
	setProto(a, ref(p)).is(t, h, 1, true, nil)
	setProto(a, ref(b)).is(t, h, 1, true, nil) // from b one comes to p, and no further
	setProto(b, ref(a)).is(t, h, 1, false, nil)
	looks(t, h, p, proxyShape())
}

// A proxy may stand for its target in a row as long as the depth allows.
func TestLongRow(t *testing.T) {
	for _, m := range thirteen() {
		h := newHeap(t, 300, 5000, 256)
		answer := num(4)
		if m.trap == "construct" {
			answer = ref(4)
		}
		base := ordinary(t, h, null())
		target := addNative(t, h, func(api.Value, []api.Value) (api.Value, error) { return answer, nil })
		lay(t, h, target, has("x", num(1)))
		handler := ordinary(t, h, null())
		o := target
		for range 255 {
			o = of(t, h, o, handler)
		}
		x := m.act
		if x.v == ref(1) {
			x.v = ref(base)
		}
		x.of(o).is(t, h, 255*2+1, m.bare, nil)
		x.of(of(t, h, o, handler)).is(t, h, 256*2, nil, api.ErrDepth) // the last one's handler is one too deep
		h.Refuel(255 * 2)
		x.of(o).is(t, h, 255*2, nil, api.ErrFuel)
	}
}
