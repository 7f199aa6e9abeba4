package proxy_test

// The trap of a name, of each of the thirteen methods: how it is found, what it is given, and what is done without one.

import (
	"slices"
	"strings"
	"testing"

	"cameo/api"
	"cameo/heap"
	"cameo/proxy"
)

// method is one of the thirteen, as it is asked of a proxy of T, an extensible object that has nothing but x, whose prototype is null.
type method struct {
	act   act
	trap  string
	given string      // what the trap is given behind T
	makes int         // objects that are made for it
	line  string      // what the target writes down, where it is entered with the same arguments
	bare  any         // what the target answers then
	takes []taken     // answers of the trap of every sort that are taken
	wrong []api.Value // answers that throw by themselves
}

// taken is answers of a trap, what the target is asked behind them, and what the method answers.
type taken struct {
	answers []api.Value
	more    []string
	want    any // nil: the answer itself
}

// objects is those of a scene that are no list: O, T, f, H and P. (R is a list.)
func objects() []api.Value { return []api.Value{ref(1), ref(2), ref(4), ref(5), ref(6)} }

func not(l []api.Value, out ...api.Value) []api.Value {
	return slices.DeleteFunc(slices.Clone(l), func(v api.Value) bool { return slices.Contains(out, v) })
}

// thirteen is all methods. Each of their objects: O 1, T 2, R 3 (an object with the length 0), f 4, H 5, P 6.
func thirteen() []method {
	a, some, all := str("a"), append(truthy(), objects()...), append(plain(), objects()...)
	return []method{
		{getProto(0), "getPrototypeOf", "", 0, "proto T", null(), []taken{{append(objects(), null()), []string{"ext T"}, nil}}, not(plain(), null())},
		{setProto(0, ref(1)), "setPrototypeOf", "O", 0, "reproto T O", true, []taken{{falsy(), nil, false}, {some, []string{"ext T"}, true}}, nil},
		{isExt(0), "isExtensible", "", 0, "ext T", true, []taken{{some, []string{"ext T"}, true}}, nil},
		{prevent(0), "preventExtensions", "", 0, "prevent T", true, []taken{{falsy(), nil, false}}, nil},
		{getOwn(0, a), "getOwnPropertyDescriptor", `"a"`, 0, "own T a", own{}, []taken{{[]api.Value{undefined()}, []string{"own T a"}, own{}}}, not(plain(), undefined())},
		{defines(0, a, open(num(1))), "defineProperty", `"a" #60`, 1, "define T a value=1,w+,e+,c+", true, []taken{{falsy(), nil, false}, {some, []string{"own T a", "ext T"}, true}}, nil},
		{hasProp(0, a), "has", `"a"`, 0, "has T a", false, []taken{{falsy(), []string{"own T a"}, false}, {some, nil, true}}, nil},
		{gets(0, a, num(8)), "get", `"a" 8`, 0, "get T a 8", undefined(), []taken{{all, []string{"own T a"}, nil}}, nil},
		{sets(0, a, num(7), num(8)), "set", `"a" 7 8`, 0, "set T a 7 8", false, []taken{{falsy(), nil, false}, {some, []string{"own T a"}, true}}, nil},
		{deletes(0, a), "deleteProperty", `"a"`, 0, "delete T a", true, []taken{{falsy(), nil, false}, {some, []string{"own T a"}, true}}, nil},
		{keysOf(0), "ownKeys", "", 0, "keys T", keyList("x"), []taken{{[]api.Value{ref(3)}, []string{"get R length R", "ext T", "keys T", "own T x"}, keyList()}}, plain()},
		{calls(0, num(8), num(7), num(6)), "apply", "8 #60", 1, "call T 8 7 6", num(4), []taken{{all, nil, nil}}, nil},
		{constructs(0, 0, num(7)), "construct", "#60 P", 1, "construct T P 7", 4, []taken{{objects(), nil, nil}}, plain()},
	}
}

// cast is what stands in each scene: O, T and R, then what the handler has; P last.
func (m method) cast(s stage) (target int) {
	s.seer("O", null())
	answer := num(4)
	if m.trap == "construct" {
		answer = ref(4)
	}
	target = s.builder("T", answer, has("x", num(1)))
	s.seer("R", null(), has("length", num(0)))
	return target
}

// comes is what the method answers, if its trap answers v, which is taken.
func (m method) comes(x taken, v api.Value) any {
	switch {
	case x.want != nil:
		return x.want
	case m.trap == "construct":
		return v.Id
	}
	return v
}

// called is the call of the trap, by the name of its receiver.
func (m method) called() string { return strings.TrimSpace("call f H T " + m.given) }

func (m method) asks() string { return "get H " + m.trap + " H" }

// scene is the method of a proxy, whose handler's trap is what is made here.
func (m method) scene(name string, handler func(s stage) int, steps []string, want any, wrong error) scene {
	return scene{name: m.trap + ": " + name, steps: append([]string{silent}, steps...), want: want, wrong: wrong, build: func(s stage) act {
		target := m.cast(s)
		return m.act.of(s.proxy("P", target, handler(s)))
	}}
}

// There is no trap where it is missing, undefined or null.
func TestNoTrap(t *testing.T) {
	for _, m := range thirteen() {
		for _, x := range []struct {
			name  string
			props []api.Prop
		}{{"missing", nil}, {"undefined", []api.Prop{has(m.trap, undefined())}}, {"null", []api.Prop{has(m.trap, null())}}, {"an accessor without a getter", []api.Prop{is(m.trap, accessor(undefined(), undefined(), api.No, api.No))}}} {
			scenes(t, []scene{m.scene(x.name, func(s stage) int { return s.seer("H", null(), x.props...) }, []string{m.asks(), m.line}, m.bare, nil)})
		}
		// Traps of the others' names do not count.
		scenes(t, []scene{m.scene("others", func(s stage) int {
			f := s.ending("f", thrown(num(1)))
			h := s.seer("H", null())
			for _, k := range append(proxy.Traps(), "call", "prevent", "delete", "keys", strings.ToUpper(m.trap), m.trap+" ") {
				if k != m.trap {
					lay(t, s.h, h, has(k, ref(f)))
				}
			}
			return h
		}, []string{m.asks(), m.line}, m.bare, nil)})
	}
}

// A trap that cannot be called throws, the target not being asked.
func TestTrapThatIsNone(t *testing.T) {
	for _, m := range thirteen() {
		for _, v := range append(not(plain(), undefined(), null()), ref(1), ref(3)) {
			scenes(t, []scene{m.scene("none "+tell(v), func(s stage) int { return s.seer("H", null(), has(m.trap, v)) }, []string{m.asks()}, nil, typeError())})
		}
		// A proxy of what cannot be called cannot, either.
		scenes(t, []scene{m.scene("a proxy", func(s stage) int {
			return s.seer("H", null(), has(m.trap, ref(s.proxy("Q", 1, 1))))
		}, []string{m.asks()}, nil, typeError())})
	}
}

// A trap that answers each sort of value.
func TestTrapAnswers(t *testing.T) {
	for _, m := range thirteen() {
		build := func(v api.Value) func(s stage) int {
			return func(s stage) int { return s.seer("H", null(), has(m.trap, ref(s.caller("f", v)))) }
		}
		add := func(first bool, x scene) {
			if x.makes = m.makes; first {
				scenes(t, []scene{x})
			} else {
				whole(t, []scene{x})
			}
		}
		for _, x := range m.takes {
			for i, v := range x.answers {
				add(i < 2, m.scene("taken "+tell(v), build(v), append([]string{m.asks(), m.called()}, x.more...), m.comes(x, v), nil))
			}
		}
		for i, v := range m.wrong {
			add(i < 2, m.scene("wrong "+tell(v), build(v), []string{m.asks(), m.called()}, nil, typeError()))
		}
	}
}

// A trap that throws, or stops, ends the method so.
func TestTrapThatEnds(t *testing.T) {
	for _, m := range thirteen() {
		for _, err := range ends() {
			x := m.scene("ends", func(s stage) int { return s.seer("H", null(), has(m.trap, ref(s.ending("f", err)))) }, []string{m.asks(), m.called()}, nil, err)
			x.makes = m.makes
			whole(t, []scene{x})
		}
	}
}

// A trap that the handler inherits, or that a getter of it tells, counts as its own; the receiver is the handler.
func TestTrapFromElsewhere(t *testing.T) {
	for _, m := range thirteen() {
		first := m.takes[0]
		v := first.answers[0]
		want := m.comes(first, v)
		behind := append([]string{m.called()}, first.more...)
		inherited := m.scene("inherited", func(s stage) int {
			base := s.seer("B", null(), has(m.trap, ref(s.caller("f", v))))
			return s.seer("H", ref(s.seer("A", ref(base))))
		}, append([]string{m.asks(), "get A " + m.trap + " H", "get B " + m.trap + " H"}, behind...), want, nil)
		told := m.scene("told by a getter", func(s stage) int {
			g := s.caller("g", ref(s.caller("f", v)))
			return s.seer("H", null(), got(m.trap, g))
		}, append([]string{m.asks(), "call g H"}, behind...), want, nil)
		both := m.scene("told by a getter that is inherited", func(s stage) int {
			g := s.caller("g", ref(s.caller("f", v)))
			return s.seer("H", ref(s.seer("A", null(), got(m.trap, g))))
		}, append([]string{m.asks(), "get A " + m.trap + " H", "call g H"}, behind...), want, nil)
		gone := m.scene("told as none by a getter", func(s stage) int {
			return s.seer("H", null(), got(m.trap, s.caller("g", undefined())))
		}, []string{m.asks(), "call g H", m.line}, m.bare, nil)
		inherited.makes, told.makes, both.makes = m.makes, m.makes, m.makes
		scenes(t, []scene{inherited, told, both, gone})
	}
}

// A revoked proxy throws, nobody being asked; refusals of the door come ahead.
func TestRevokedBefore(t *testing.T) {
	for _, m := range thirteen() {
		scenes(t, []scene{{name: m.trap, steps: []string{silent}, wrong: typeError(), build: func(s stage) act {
			target := m.cast(s)
			p := s.proxy("P", target, s.seer("H", null(), has(m.trap, ref(s.caller("f", yes())))))
			s.revoke(&p)()
			return m.act.of(p)
		}}})
	}
	h := newHeap(t, 20, 10, 9)
	p := of(t, h, class(t, h), ordinary(t, h, null()))
	revokes(p).is(t, h, 0, struct{}{}, nil)
	gets(p, str("a"), ref(99)).is(t, h, 0, nil, api.ErrRef)
	gets(p, str("\xff"), null()).is(t, h, 0, nil, api.ErrValue)
	setProto(p, num(1)).is(t, h, 0, nil, api.ErrValue)
	calls(p, null(), values(0, 1025)...).is(t, h, 0, nil, api.ErrLong)
	calls(p, null()).is(t, h, 1, nil, typeError())
}

// A proxy that is revoked within the method goes on with what it had: by the getter of its trap, or by its trap.
func TestRevokedWithin(t *testing.T) {
	revoked := func(p int) func(t *testing.T, h *heap.Heap, n int) {
		return func(t *testing.T, h *heap.Heap, n int) {
			if target, handler, e := proxy.Parts(h, p); n > 3 && (target != null() || handler != null() || e != api.OK) {
				t.Errorf("it is not revoked: %v, %v", target, handler)
			}
		}
	}
	for _, m := range thirteen() {
		first := m.takes[0]
		v := first.answers[0]
		want := m.comes(first, v)
		behind := append([]string{m.called()}, first.more...)
		by := func(handler func(s stage, p *int) int) func(s stage) act {
			return func(s stage) act {
				var p int
				target := m.cast(s)
				p = s.proxy("P", target, handler(s, &p))
				return m.act.of(p)
			}
		}
		scenes(t, []scene{
			{name: m.trap + ": by its trap", makes: m.makes, steps: append([]string{silent, m.asks()}, behind...), want: want, left: revoked(6), build: by(func(s stage, p *int) int {
				return s.seer("H", null(), has(m.trap, ref(s.doing("f", v, s.revoke(p)))))
			})},
			{name: m.trap + ": by its getter", makes: m.makes, steps: append([]string{silent, m.asks(), "call g H"}, behind...), want: want, left: revoked(7), build: by(func(s stage, p *int) int {
				return s.seer("H", null(), got(m.trap, s.doing("g", ref(s.caller("f", v)), s.revoke(p))))
			})},
			{name: m.trap + ": by a getter that tells none", steps: []string{silent, m.asks(), "call g H", m.line}, want: m.bare, left: revoked(6), build: by(func(s stage, p *int) int {
				return s.seer("H", null(), got(m.trap, s.doing("g", null(), s.revoke(p))))
			})},
		})
	}
}

// The table of names is that of the methods, in their order.
func TestTrapNames(t *testing.T) {
	l := thirteen()
	for i, s := range proxy.Traps() {
		if s != l[i].trap || methods()[i] != l[i].act.name {
			t.Errorf("19.12: %d: %s", i, s)
		}
	}
}
