package bound_test

// 18.5, 18.6: InstanceOf and HasInstance.

import (
	"fmt"
	"slices"
	"testing"

	"cameo/api"
	"cameo/bound"
	"cameo/heap"
)

// truthy tells whether a value is, by hand.
func truthy(v api.Value) bool {
	return v.Kind == api.KSym || v.Kind == api.KRef || v.Bool || v.Str != "" || v.Num < 0 || v.Num > 0
}

// 18.5: a method of c is called with it and v; whether what it answers is truthy is the answer.
func TestInstanceByMethod(t *testing.T) {
	for _, v := range append(plain(), ref(1), ref(2), ref(3)) {
		for _, answer := range append(plain(), ref(1)) {
			scene{name: "18.5: own", build: func(s stage) act {
				has := s.caller(null(), "has", answer, nil)
				made(s.t, s.h, null())
				return isInstance(v, ref(s.seer(null(), hasInstance(ref(has)))))
			}, steps: []string{"get #3 @2 #3", line("call", "has", "#3", tell(v))}, want: truthy(answer)}.holds(t)
		}
	}
	for _, err := range ends() {
		scene{name: "18.5: it ends otherwise", build: func(s stage) act {
			has := s.caller(null(), "has", api.Value{}, err)
			return isInstance(num(1), ref(s.seer(null(), hasInstance(ref(has)))))
		}, steps: []string{"get #2 @2 #2", "call has #2 1"}, wrong: err}.holds(t)
	}
}

// 18.5: the method may be inherited, told by a getter, and be that of a function: what c is besides does not count.
func TestInstanceByMethodAsked(t *testing.T) {
	scene{name: "18.5: inherited", build: func(s stage) act {
		base := s.seer(null(), hasInstance(ref(s.caller(null(), "has", num(1), nil))))
		return isInstance(ref(2), ref(s.caller(ref(base), "c", null(), nil, has("prototype", num(1)))))
	}, steps: []string{"get #3 @2 #3", "get #2 @2 #3", "call has #3 #2"}, want: true}.holds(t)
	scene{name: "18.5: a getter", build: func(s stage) act {
		f := s.caller(null(), "has", text(""), nil)
		getter := s.getter("getter", ref(f), nil)
		return isInstance(ref(1), ref(s.seer(null(), api.Prop{Key: sym(api.SymHasInstance), Desc: api.Desc{Get: getter}})))
	}, steps: []string{"get #3 @2 #3", "call getter #3", "call has #3 #1"}, want: false}.holds(t)
	scene{name: "18.5: bound itself", build: func(s stage) act {
		f := s.bound(s.caller(null(), "has", yes(), nil), text("settled"), num(1))
		return isInstance(ref(1), ref(s.seer(null(), hasInstance(ref(f)))))
	}, steps: []string{"get #3 @2 #3", silent, `call has "settled" 1 #1`}, want: true}.holds(t)
}

// 18.5: what is there and cannot be called throws; undefined and null are no method.
func TestInstanceNoMethod(t *testing.T) {
	for _, v := range append(plain(), ref(1), ref(2)) {
		for _, m := range append(plain(), ref(1)) {
			none := m.Kind == api.KUndefined || m.Kind == api.KNull
			scene{name: "18.5: not callable", build: func(s stage) act {
				return isInstance(v, ref(s.seer(ref(made(s.t, s.h, null())), hasInstance(m))))
			}, steps: []string{"get #2 @2 #2"}, wrong: typeError()}.holds(t)
			x := scene{name: "18.5: callable", build: func(s stage) act {
				made(s.t, s.h, null())
				return isInstance(v, ref(s.caller(null(), "c", null(), nil, hasInstance(m), has("prototype", ref(1)))))
			}, steps: []string{"get #2 @2 #2"}, want: false}
			switch {
			case !none:
				x.wrong = typeError()
			case v == ref(1):
				x.steps = append(x.steps, "get #2 prototype #2", silent)
			case v == ref(2):
				x.steps = append(x.steps, "get #2 prototype #2", "proto #2")
			}
			x.holds(t)
		}
		// Other symbols, and strings that look like it, are not asked for.
		scene{name: "18.5: nothing", build: func(s stage) act {
			f := s.caller(null(), "has", yes(), nil)
			return isInstance(v, ref(s.seer(null(), has("@2", ref(f)), has("hasInstance", ref(f)), api.Prop{Key: sym(1), Desc: open(ref(f))})))
		}, steps: []string{"get #2 @2 #2"}, wrong: typeError()}.holds(t)
	}
	scene{name: "18.5: no getter", build: func(s stage) act {
		return isInstance(null(), ref(s.caller(null(), "c", null(), nil, api.Prop{Key: sym(api.SymHasInstance), Desc: api.Desc{Get: undefined()}})))
	}, steps: []string{"get #1 @2 #1"}, want: false}.holds(t)
}

// 18.5, 18.6: nobody is asked about a c that is no object.
func TestInstanceOfNoObject(t *testing.T) {
	for _, v := range append(plain(), ref(1)) {
		for _, c := range plain() {
			build := func(x act) func(s stage) act {
				return func(s stage) act { s.seer(null()); return x }
			}
			scene{name: "18.5: no object", build: build(isInstance(v, c)), wrong: typeError()}.holds(t)
			scene{name: "18.6: no object", build: build(asInstance(c, v)), want: false}.holds(t)
		}
		// HasInstance does not ask what is not callable either.
		scene{name: "18.6: not callable", build: func(s stage) act {
			f := s.caller(null(), "has", yes(), nil)
			return asInstance(ref(s.seer(null(), hasInstance(ref(f)), has("prototype", ref(f)))), v)
		}, want: false}.holds(t)
	}
}

// 18.6: v that is no object is no instance, without being asked about; HasInstance does not ask for a method.
func TestHasInstanceOfNoObject(t *testing.T) {
	for _, v := range plain() {
		scene{name: "18.6: v is no object", build: func(s stage) act {
			f := s.caller(null(), "has", yes(), nil)
			return asInstance(ref(s.builder(null(), "c", null(), nil, hasInstance(ref(f)), has("prototype", num(1)))), v)
		}, want: false}.holds(t)
	}
}

// 18.6: a prototype that is no object throws, ahead of v being asked.
func TestPrototypeNoObject(t *testing.T) {
	for _, p := range plain() {
		scene{name: "18.6: prototype", build: func(s stage) act {
			return asInstance(ref(s.caller(null(), "c", null(), nil, has("prototype", p))), ref(1))
		}, steps: []string{"get #1 prototype #1"}, wrong: typeError()}.holds(t)
		scene{name: "18.6: a getter of prototype", build: func(s stage) act {
			c := s.caller(null(), "c", null(), nil)
			lay(s.t, s.h, c, got("prototype", s.getter("getter", p, nil)))
			return asInstance(ref(c), ref(s.seer(null())))
		}, steps: []string{"get #1 prototype #1", "call getter #1"}, wrong: typeError()}.holds(t)
	}
	for _, props := range [][]api.Prop{nil, {has("Prototype", ref(1))}, {got("prototype", undefined())}} {
		scene{name: "18.6: no prototype", build: func(s stage) act {
			return asInstance(ref(s.caller(null(), "c", null(), nil, props...)), ref(1))
		}, steps: []string{"get #1 prototype #1"}, wrong: typeError()}.holds(t)
	}
}

// chained builds a chain of n seers, of which the last one, which is asked, is n; each is the prototype of the next.
func chained(s stage, n int) {
	proto := null()
	for range n {
		proto = ref(s.seer(proto))
	}
}

// 18.6: chains of every length, with the prototype at every place of them, and at none.
func TestChains(t *testing.T) {
	for n := 1; n <= 6; n++ {
		for p := 1; p <= n+1; p++ {
			// 1 to n are the chain, n+1 stands apart, and n+2 is the function.
			c := fmt.Sprint("#", n+2)
			steps := []string{line("get", c, "prototype", c)}
			want := p < n
			for o := n; o >= 1 && !(want && o == p); o-- {
				steps = append(steps, line("proto", tell(ref(o))))
			}
			build := func(s stage) int {
				chained(s, n)
				s.seer(null())
				return s.caller(null(), "c", null(), nil, has("prototype", ref(p)))
			}
			scene{name: "18.6: a chain", build: func(s stage) act { return asInstance(ref(build(s)), ref(n)) }, steps: steps, want: want}.holds(t)
			steps = slices.Insert(steps, 0, line("get", c, "@2", c))
			scene{name: "18.5: a chain", build: func(s stage) act { return isInstance(ref(n), ref(build(s))) }, steps: steps, want: want}.holds(t)
		}
	}
}

// 18.6: the prototype may be inherited, or told by a getter, with c as the receiver; and c may be its own instance.
func TestPrototypeAsked(t *testing.T) {
	scene{name: "18.6: inherited", build: func(s stage) act {
		base := s.seer(null())
		lay(s.t, s.h, base, has("prototype", ref(base)))
		return asInstance(ref(s.caller(ref(base), "c", null(), nil)), ref(2))
	}, steps: []string{"get #2 prototype #2", "get #1 prototype #2", "proto #2"}, want: true}.holds(t)
	scene{name: "18.6: a getter", build: func(s stage) act {
		base := s.seer(null())
		c := s.caller(null(), "c", null(), nil)
		lay(s.t, s.h, c, got("prototype", s.getter("getter", ref(base), nil)))
		return asInstance(ref(c), ref(s.seer(ref(base))))
	}, steps: []string{"get #2 prototype #2", "call getter #2", "proto #4"}, want: true}.holds(t)
}

// 18.6: of a bound function its target is asked, by InstanceOf: for its method first, whatever v is.
func TestHasInstanceOfBound(t *testing.T) {
	for n := 1; n <= 4; n++ {
		build := func(s stage, props ...api.Prop) int {
			base := s.seer(null())
			b := s.builder(null(), "c", null(), nil, append(props, has("prototype", ref(base)))...)
			s.seer(ref(base))
			for range n {
				b = s.bound(b, null(), num(1))
			}
			return b
		}
		// Below the outermost one each is asked for the method, too: those that are bound write no line.
		asked := append(slices.Repeat([]string{silent}, n-1), "get #2 @2 #2")
		for _, v := range append(plain(), ref(1), ref(2), ref(3)) {
			steps := slices.Clone(asked)
			if v.Kind == api.KRef {
				steps = append(steps, "get #2 prototype #2", line("proto", tell(v)))
			}
			scene{name: "18.6: bound", build: func(s stage) act { return asInstance(ref(build(s)), v) }, steps: steps, want: v == ref(3)}.holds(t)
			scene{name: "18.5: bound", build: func(s stage) act { return isInstance(v, ref(build(s))) }, steps: slices.Insert(steps, 0, silent), want: v == ref(3)}.holds(t)
			steps = append(slices.Clone(asked), line("call", "has", "#2", tell(v)))
			by := func(s stage) int {
				b := build(s)
				lay(s.t, s.h, 2, hasInstance(ref(s.caller(null(), "has", text("a"), nil))))
				return b
			}
			scene{name: "18.6: bound, with a method", build: func(s stage) act { return asInstance(ref(by(s)), v) }, steps: steps, want: true}.holds(t)
			scene{name: "18.5: bound, with a method", build: func(s stage) act { return isInstance(v, ref(by(s))) }, steps: slices.Insert(steps, 0, silent), want: true}.holds(t)
		}
	}
}

// 18.6: a prototype property of what is bound does not count, a method of its own does, and not for HasInstance.
func TestPropertiesOfBound(t *testing.T) {
	build := func(s stage) (int, int) {
		base := s.seer(null())
		b := s.bound(s.caller(null(), "c", null(), nil, has("prototype", ref(base))), null())
		lay(s.t, s.h, b, has("prototype", num(1)))
		return b, s.seer(ref(base))
	}
	steps := []string{"get #2 @2 #2", "get #2 prototype #2", "proto #4"}
	scene{name: "18.6: its prototype", build: func(s stage) act { b, o := build(s); return asInstance(ref(b), ref(o)) }, steps: steps, want: true}.holds(t)
	scene{name: "18.5: its prototype", build: func(s stage) act { b, o := build(s); return isInstance(ref(o), ref(b)) }, steps: slices.Insert(steps, 0, silent), want: true}.holds(t)
	with := func(s stage) (int, int) {
		b, o := build(s)
		lay(s.t, s.h, b, hasInstance(s.getter("has", no(), nil)))
		return b, o
	}
	scene{name: "18.6: its method", build: func(s stage) act { b, o := with(s); return asInstance(ref(b), ref(o)) }, steps: steps, want: true}.holds(t)
	scene{name: "18.5: its method", build: func(s stage) act { b, o := with(s); return isInstance(ref(o), ref(b)) }, steps: []string{silent, "call has #3 #4"}, want: false}.holds(t)
	// What is bound inherits what its target does: the method is called with what was asked.
	inherited := func(s stage) act {
		base := s.seer(null(), hasInstance(s.getter("has", yes(), nil)))
		return isInstance(num(1), ref(s.bound(s.caller(ref(base), "c", null(), nil), null())))
	}
	scene{name: "18.5: inherited by both", build: inherited, steps: []string{silent, "get #2 @2 #4", "call has #4 1"}, want: true}.holds(t)
	// A target whose method cannot be called throws through all that is bound to it.
	scene{name: "18.6: no function", build: func(s stage) act {
		f := s.caller(null(), "c", null(), nil, hasInstance(num(1)))
		return asInstance(ref(s.bound(s.bound(f, null()), null())), ref(1))
	}, steps: []string{silent, "get #1 @2 #1"}, wrong: typeError()}.holds(t)
}

// A row of bound functions may be as long as a heap has room: it is not one deeper.
func TestLongRow(t *testing.T) {
	h := newHeap(t, api.MaxObjects, 1<<30, 1)
	base := made(t, h, null())
	b := class(t, h)
	lay(t, h, b, has("prototype", ref(base)))
	o := made(t, h, ref(base))
	n := 0
	for h.Len() < api.MaxObjects {
		lay(t, h, b, has("name", null())) // else names would become too long
		b = bind(t, h, b, null())
		n++
	}
	isInstance(ref(o), ref(b)).is(t, h, n+1+2, true, nil)
	asInstance(ref(b), ref(o)).is(t, h, n+2, true, nil)
	asInstance(ref(b), num(1)).is(t, h, n, false, nil)
	h.Refuel(n / 2)
	isInstance(ref(o), ref(b)).is(t, h, n/2, nil, api.ErrFuel)
}

// So may a chain of prototypes.
func TestLongChain(t *testing.T) {
	h := newHeap(t, api.MaxObjects, 1<<30, 1)
	f := class(t, h)
	o := made(t, h, null())
	lay(t, h, f, has("prototype", ref(o)))
	for h.Len() < api.MaxObjects {
		o = made(t, h, ref(o))
	}
	isInstance(ref(o), ref(f)).is(t, h, 2+api.MaxObjects-2, true, nil)
	lay(t, h, f, has("prototype", ref(f)))
	isInstance(ref(o), ref(f)).is(t, h, 2+api.MaxObjects-1, false, nil)
}

// looper is an object whose prototype is what it likes, as that of a proxy: others, in turn.
type looper struct{ heap.Ordinary }

func (looper) GetPrototypeOf(h *heap.Heap, o int) (api.Value, error) {
	l := h.Own(o).(*[]api.Value)
	v := (*l)[0]
	*l = append((*l)[1:], v)
	return v, nil
}

// 18.6: each is asked, and what it answers counts: a chain that goes round ends with the fuel, or where the prototype is met.
func TestPrototypesAreAsked(t *testing.T) {
	h := newHeap(t, 9, 100, 1)
	f, base := class(t, h), made(t, h, null())
	lay(t, h, f, has("prototype", ref(base)))
	answers := []api.Value{ref(3)}
	o, err := h.Add(api.COrdinary, null(), looper{}, &answers)
	if o != 3 || err != nil {
		t.Fatal(err)
	}
	asInstance(ref(f), ref(o)).is(t, h, 100, nil, api.ErrFuel)
	h.Refuel(100)
	answers = []api.Value{ref(3), ref(3), ref(3), ref(base)}
	asInstance(ref(f), ref(o)).is(t, h, 5, true, nil)
	answers = []api.Value{ref(3), ref(3), null()}
	asInstance(ref(f), ref(o)).is(t, h, 4, false, nil)
	// What the shape says is not asked.
	answers = []api.Value{ref(base)}
	asInstance(ref(f), ref(o)).is(t, h, 2, true, nil)
	lay(t, h, f, has("prototype", ref(o)))
	answers = []api.Value{ref(o)}
	asInstance(ref(f), ref(o)).is(t, h, 2, true, nil)
}

// Programs change the chain while it is gone through: each thing is what it is when it is asked for.
func TestInstanceChangedInTheMidst(t *testing.T) {
	h := newHeap(t, 20, 1000, 9)
	base, o := made(t, h, null()), made(t, h, null())
	// The getter of prototype makes o an instance, and tells base.
	getter := fn(t, h, api.Op{Code: api.OConst, Val: ref(o)}, api.Op{Code: api.OConst, To: 1, Val: ref(base)}, api.Op{Code: api.OReproto, To: 2, A: 0, B: 1}, api.Op{Code: api.OReturn, A: 1})
	f := class(t, h)
	lay(t, h, f, got("prototype", ref(getter)))
	isInstance(ref(o), ref(f)).is(t, h, 1+1+1+4+1+1, true, nil)
	// The getter of the method takes the method away from others, and tells none.
	c := class(t, h)
	lay(t, h, c, has("prototype", ref(base)))
	away := fn(t, h, api.Op{Code: api.OThis}, api.Op{Code: api.ODelete, To: 1, A: 0, Key: str("prototype")})
	lay(t, h, c, api.Prop{Key: sym(api.SymHasInstance), Desc: api.Desc{Get: ref(away)}})
	isInstance(ref(o), ref(c)).is(t, h, 1+1+2+1+1, nil, typeError())
}

// What is no instance by the operator may be one by HasInstance, and the other way round.
func TestTheTwoAreNotTheSame(t *testing.T) {
	h := newHeap(t, 20, 1000, 9)
	base := made(t, h, null())
	f, o := class(t, h), made(t, h, ref(base))
	lay(t, h, f, has("prototype", ref(base)), hasInstance(ref(giving(t, h, no()))))
	isInstance(ref(o), ref(f)).is(t, h, 1+1+2, false, nil)
	asInstance(ref(f), ref(o)).is(t, h, 2, true, nil)
	if ok, err := bound.HasInstance(h, ref(base), ref(o)); ok || err != nil {
		t.Errorf("18.6: %v, %v", ok, err)
	}
}
