package integrity_test

// 21.1 to 21.5 of proxies: without traps, with every trap, with such that refuse or lie, and revoked.

import (
	"fmt"
	"slices"
	"strings"
	"testing"

	"cameo/api"
	"cameo/array"
	"cameo/heap"
	"cameo/key"
	"cameo/records"
)

// layers is proxies without traps, one in front of the other; the outermost one.
func (w world) layers(target, n int) int {
	w.t.Helper()
	for range n {
		target = w.proxy(target)
	}
	return target
}

// A proxy without traps is fixed as its target is, and its target with it: each step costs two more for each such proxy. What it leads to is what its target leads to, but not the target.
func TestWithoutTraps(t *testing.T) {
	for _, s := range append(sorts(), sort{"elements", 4}) {
		for n := range 3 {
			one, two := newWorld(t, 1<<20, 20), newWorld(t, 1<<20, 20)
			o := one.n[s.name]
			p := two.layers(o, n)
			for i, x := range all(o) {
				y := all(p)[i]
				was, also := one.h.Fuel(), two.h.Fuel()
				want, wrong := x.played(one.h)
				got, err := y.played(two.h)
				spent, cost := also-two.h.Fuel(), was-one.h.Fuel()
				steps := cost
				if x.name == "Harden" && wrong == nil {
					steps = 4 + 3*s.keys
				}
				switch {
				case x.name == "Fix" && wrong == nil:
					want = fmt.Sprint(ref(p))
				case x.name == "Harden":
					want = strings.Replace(want, fmt.Sprint("[", o), fmt.Sprint("[", p), 1)
				}
				if got != want || !sameError(err, wrong) || spent != cost+2*n*steps {
					t.Errorf("%s by %d proxies: %v: %s, %v, %d spent; want %s, %v, %d and %d for each of %d steps", s.name, n, y, got, err, spent, want, wrong, cost, 2*n, steps)
				}
				if all := one.h.Shapes(); !sameShapes(all, two.h.Shapes()[:len(all)]) {
					t.Errorf("%s by %d proxies: %v: %v; want %v", s.name, n, y, two.h.Shapes(), all)
				}
			}
		}
	}
}

// What a namespace enters itself is no step of a proxy in front of it.
func TestNamespacesWithoutTraps(t *testing.T) {
	w := newWorld(t, 1000, 9)
	o := w.proxy(w.n["bound exports"])
	isSealed(o).stays(t, w.h, 3+3+(3+1)+(3+1)+3, true, nil)
	isFrozen(o).stays(t, w.h, 3+3+(3+1), false, nil)
	seal(o).stays(t, w.h, 3+3+(3+2)+(3+2)+3, true, nil)
	freeze(o).stays(t, w.h, 3+3+(3+1)+(3+2), nil, typeError())
	p := w.proxy(w.n["exports"])
	isSealed(p).stays(t, w.h, 3+3+(3+1)+(3+1), nil, referenceError())
	seal(p).stays(t, w.h, 3+3+(3+2)+(3+2), nil, referenceError())
}

// A revoked proxy throws at its first step.
func TestRevoked(t *testing.T) {
	w := newWorld(t, 1000, 9)
	o := w.revoked(w.n["one"])
	for _, x := range all(o) {
		x.stays(t, w.h, 1, nil, typeError())
	}
	p := w.proxy(o) // its target is revoked, and it is not
	for _, x := range all(p) {
		x.stays(t, w.h, 3, nil, typeError())
	}
}

// trapping is a proxy of an object, whose handler has some traps, which are functions of Go.
func trapping(t *testing.T, h *heap.Heap, target int, traps map[string]does) int {
	t.Helper()
	handler := object(t, h, null())
	for name, d := range traps {
		lay(t, h, handler, has(name, ref(addNative(t, h, d))))
	}
	return proxied(t, h, target, handler)
}

// always is a trap that answers a value.
func always(v api.Value) does {
	return func(api.Value, []api.Value) (api.Value, error) { return v, nil }
}

// listing is a trap that answers an array of keys.
func listing(h *heap.Heap, l ...api.Key) does {
	return func(api.Value, []api.Value) (api.Value, error) { return arrayOf(h, l) }
}

func arrayOf(h *heap.Heap, l []api.Key) (api.Value, error) {
	var values []api.Value
	for _, k := range l {
		v, _ := key.Value(k)
		values = append(values, v)
	}
	n, err := array.Of(h, null(), values)
	return ref(n), err
}

// truth is an answer of yes or no as a value.
func truth(ok bool, err error) (api.Value, error) {
	return api.Value{Kind: api.KBool, Bool: ok && err == nil}, err
}

// forwards does with the target, which is the first of what it is given, what the trap's method does.
func forwards(h *heap.Heap, trap string) does {
	return func(_ api.Value, l []api.Value) (api.Value, error) {
		o := l[0].Id
		switch trap {
		case "getPrototypeOf":
			return h.GetPrototypeOf(o)
		case "isExtensible":
			return truth(h.IsExtensible(o))
		case "preventExtensions":
			return truth(h.PreventExtensions(o))
		case "ownKeys":
			keys, err := h.OwnPropertyKeys(o)
			if err != nil {
				return api.Value{}, err
			}
			return arrayOf(h, keys)
		}
		k, _ := key.Of(l[1])
		if trap == "defineProperty" {
			d, err := records.To(h, l[2])
			if err != nil {
				return api.Value{}, err
			}
			return truth(h.DefineOwnProperty(o, k, d))
		}
		d, ok, err := h.GetOwnProperty(o, k) // getOwnPropertyDescriptor
		if !ok || err != nil {
			return undefined(), err
		}
		n, err := records.From(h, d, null())
		return ref(n), err
	}
}

// every is the traps that the calls come to.
func every() []string {
	return []string{"getPrototypeOf", "isExtensible", "preventExtensions", "ownKeys", "getOwnPropertyDescriptor", "defineProperty"}
}

// noting is a proxy with every trap, each of which writes down that it was called, for which key, and with which descriptor, and then forwards.
func noting(t *testing.T, h *heap.Heap, target int, lines *[]string) int {
	t.Helper()
	traps := map[string]does{}
	for _, trap := range every() {
		on := forwards(h, trap)
		traps[trap] = func(this api.Value, l []api.Value) (api.Value, error) {
			line := trap
			if len(l) > 1 {
				k, _ := key.Of(l[1])
				line += " " + nameOf(k)
			}
			if len(l) > 2 {
				d := tells(h, l[2].Id)
				for i, k := range d.keys {
					line += " " + k.Str + fmt.Sprint(d.descs[i].Value.Bool)
				}
			}
			*lines = append(*lines, line)
			return on(this, l)
		}
	}
	return trapping(t, h, target, traps)
}

// Every trap is called in its turn, with its key; what Seal and Freeze define comes to it as an object with these fields, and no others.
func TestEveryTrap(t *testing.T) {
	for name, want := range map[string][]string{
		"Seal":     {"preventExtensions", "ownKeys", `defineProperty "7" configurablefalse`, `defineProperty "a" configurablefalse`, `defineProperty "b" configurablefalse`, `defineProperty @3 configurablefalse`},
		"Freeze":   {"preventExtensions", "ownKeys", `getOwnPropertyDescriptor "7"`, `defineProperty "7" writablefalse configurablefalse`, `getOwnPropertyDescriptor "a"`, `defineProperty "a" writablefalse configurablefalse`, `getOwnPropertyDescriptor "b"`, `defineProperty "b" configurablefalse`, `getOwnPropertyDescriptor @3`, `defineProperty @3 configurablefalse`},
		"IsSealed": {"isExtensible", "ownKeys", `getOwnPropertyDescriptor "7"`, `getOwnPropertyDescriptor "a"`, `getOwnPropertyDescriptor "b"`, `getOwnPropertyDescriptor @3`},
		"IsFrozen": {"isExtensible", "ownKeys", `getOwnPropertyDescriptor "7"`, `getOwnPropertyDescriptor "a"`, `getOwnPropertyDescriptor "b"`, `getOwnPropertyDescriptor @3`},
		"Harden":   {"preventExtensions", "ownKeys", `getOwnPropertyDescriptor "7"`, `defineProperty "7" writablefalse configurablefalse`, `getOwnPropertyDescriptor "a"`, `defineProperty "a" writablefalse configurablefalse`, `getOwnPropertyDescriptor "b"`, `defineProperty "b" configurablefalse`, `getOwnPropertyDescriptor @3`, `defineProperty @3 configurablefalse`, "getPrototypeOf", "ownKeys", `getOwnPropertyDescriptor "7"`, `getOwnPropertyDescriptor "a"`, `getOwnPropertyDescriptor "b"`, `getOwnPropertyDescriptor @3`},
	} {
		for frozen := range 2 { // what is asked whether it is fixed must be, or it ends at once
			if strings.HasPrefix(name, "Is") != (frozen == 1) {
				continue
			}
			h := newHeap(t, 200, 10000, 9)
			o := object(t, h, null(), has("a", num(1)), is("b", accessor(undefined(), undefined(), "c")), marked(3, accessor(undefined(), undefined(), "")), is("7", data(num(2), "w")))
			if frozen == 1 {
				freeze(o).played(h)
			}
			var lines []string
			p := noting(t, h, o, &lines)
			x, answer := act{name: name, o: p, v: ref(p)}, "true"
			if name == "Harden" {
				answer = fmt.Sprint([]int{p})
			}
			if s, err := x.played(h); s != answer || err != nil || !slices.Equal(lines, want) {
				t.Errorf("%v: %s, %v, %q; want %q", x, s, err, lines, want)
			}
			if ok := shapeOf(t, h, o); ok.Extensible || ok.Props[0].Desc.Configurable != api.No {
				t.Errorf("%v: %v", x, ok)
			}
		}
	}
}

// What each step costs with every trap: asked for and called, what it does itself, and what the proxy holds that against. With less fuel it stops there, having done so much.
func TestEveryTrapCosts(t *testing.T) {
	const (
		prevented = 3 + 1 + 1                      // the proxy, the handler's Get, the trap's Call; within it PreventExtensions; IsExtensible
		listed    = 3 + 1 + 2 + 1 + 1 + 1          // OwnPropertyKeys; its length and its member; IsExtensible, OwnPropertyKeys, GetOwnProperty
		told      = 3 + 1 + 1 + 1 + 6 + 4          // GetOwnProperty; GetOwnProperty, IsExtensible; a descriptor of four fields is read
		defined   = 3 + 6 + 2 + 1 + 1 + 1          // a descriptor of two is read, DefineOwnProperty; GetOwnProperty, IsExtensible
		frozen    = prevented + listed + told + 12 // the step of defined within which it is done
	)
	total := prevented + listed + told + defined
	for fuel := range total + 2 {
		h := newHeap(t, 200, fuel, 9)
		o := object(t, h, null(), has("a", num(1)))
		var lines []string
		x := freeze(noting(t, h, o, &lines))
		if fuel < total {
			x.is(t, h, fuel, nil, api.ErrFuel)
		} else {
			x.is(t, h, total, true, nil)
		}
		want := data(num(1), "wec")
		if fuel >= frozen {
			want = data(num(1), "e")
		}
		if s := shapeOf(t, h, o); s.Extensible != (fuel < prevented-1) || !sameDesc(s.Props[0].Desc, want) {
			t.Errorf("21.6: with fuel %d: %v", fuel, s)
		}
	}
}

// refusal is what a trap answers, of a target with the open properties a and b, and what a call comes to then, having left the target so. The target is 1, its handler 2, the proxy 3.
type refusal struct {
	name  string
	trap  string
	does  func(h *heap.Heap) does // nil: what is there is no function
	act   func(o int) act
	want  any
	wrong error
	shut  bool   // the target is not extensible ahead of it
	free  bool   // it is extensible behind it
	a, b  string // the flags of its properties behind it
}

func fixes(v api.Value) func(*heap.Heap) does { return func(*heap.Heap) does { return always(v) } }

func tellsKeys(l ...api.Key) func(*heap.Heap) does {
	return func(h *heap.Heap) does { return listing(h, l...) }
}

// describes is a trap that tells a descriptor.
func describes(d api.Desc) func(*heap.Heap) does {
	return func(h *heap.Heap) does {
		return func(api.Value, []api.Value) (api.Value, error) {
			n, err := records.From(h, d, null())
			return ref(n), err
		}
	}
}

func level(n int) func(o int) act  { return func(o int) act { return fixing(ref(o), n) } }
func asking(n int) func(o int) act { return func(o int) act { return fixedness(ref(o), n) } }
func hardening(o int) act          { return harden(ref(o)) }

func refusals() []refusal {
	a, b := str("a"), str("b")
	lie := describes(accessor(undefined(), undefined(), "ec"))
	return []refusal{
		// What is not prevented is told as false, or thrown; nothing more is asked.
		{"no", "preventExtensions", fixes(no()), seal, false, nil, false, true, "wec", "wec"},
		{"no", "preventExtensions", fixes(num(0)), freeze, false, nil, false, true, "wec", "wec"},
		{"no", "preventExtensions", fixes(undefined()), level(api.LShut), nil, typeError(), false, true, "wec", "wec"},
		{"no", "preventExtensions", fixes(text("")), level(api.LSealed), nil, typeError(), false, true, "wec", "wec"},
		{"no", "preventExtensions", fixes(num(nan)), level(api.LFrozen), nil, typeError(), false, true, "wec", "wec"},
		{"no", "preventExtensions", fixes(null()), hardening, nil, typeError(), false, true, "wec", "wec"},
		{"no, though it is", "preventExtensions", fixes(no()), seal, false, nil, true, false, "wec", "wec"},
		{"no, though it is", "preventExtensions", fixes(no()), freeze, false, nil, true, false, "wec", "wec"},
		// A lie throws.
		{"yes", "preventExtensions", fixes(yes()), seal, nil, typeError(), false, true, "wec", "wec"},
		{"yes", "preventExtensions", fixes(yes()), level(api.LShut), nil, typeError(), false, true, "wec", "wec"},
		{"yes, and it is", "preventExtensions", fixes(text("x")), freeze, true, nil, true, false, "e", "e"},
		{"yes, and it is", "preventExtensions", fixes(ref(1)), seal, true, nil, true, false, "we", "we"},
		{"no function", "preventExtensions", nil, seal, nil, typeError(), false, true, "wec", "wec"},
		{"no function", "ownKeys", nil, freeze, nil, typeError(), false, false, "wec", "wec"},
		{"yes", "isExtensible", fixes(yes()), isFrozen, false, nil, false, true, "wec", "wec"},
		{"no", "isExtensible", fixes(no()), isFrozen, nil, typeError(), false, true, "wec", "wec"},
		{"yes, though not", "isExtensible", fixes(yes()), asking(api.LShut), nil, typeError(), true, false, "wec", "wec"},
		{"no, and not", "isExtensible", fixes(no()), asking(api.LShut), true, nil, true, false, "wec", "wec"},
		{"no, and not", "isExtensible", fixes(no()), isSealed, false, nil, true, false, "wec", "wec"},
		// Keys are gone through as the trap tells them; none may be missing.
		{"b a", "ownKeys", tellsKeys(b, a), freeze, true, nil, false, false, "e", "e"},
		{"a", "ownKeys", tellsKeys(a), freeze, nil, typeError(), false, false, "wec", "wec"},
		{"none", "ownKeys", tellsKeys(), seal, nil, typeError(), false, false, "wec", "wec"},
		{"a b c", "ownKeys", tellsKeys(a, b, str("c")), seal, nil, typeError(), false, false, "wec", "wec"},
		{"a b a", "ownKeys", tellsKeys(a, b, a), freeze, nil, typeError(), false, false, "wec", "wec"},
		{"no list", "ownKeys", fixes(num(1)), isFrozen, nil, typeError(), true, false, "wec", "wec"},
		// What is not defined throws, and so does a lie.
		{"no", "defineProperty", fixes(no()), seal, nil, typeError(), false, false, "wec", "wec"},
		{"no", "defineProperty", fixes(no()), freeze, nil, typeError(), false, false, "wec", "wec"},
		{"no", "defineProperty", fixes(no()), level(api.LSealed), nil, typeError(), false, false, "wec", "wec"},
		{"no", "defineProperty", fixes(no()), level(api.LShut), ref(3), nil, false, false, "wec", "wec"},
		{"yes", "defineProperty", fixes(yes()), seal, nil, typeError(), false, false, "wec", "wec"},
		{"yes", "defineProperty", fixes(yes()), freeze, nil, typeError(), false, false, "wec", "wec"},
		// What is told of properties: none cannot be, where the target is not extensible. Of what is told as an accessor Freeze asks less: by such a lie a proxy answers true, and is not frozen.
		{"none", "getOwnPropertyDescriptor", fixes(undefined()), freeze, nil, typeError(), false, false, "wec", "wec"},
		{"none", "getOwnPropertyDescriptor", fixes(undefined()), seal, true, nil, false, false, "we", "we"},
		{"none", "getOwnPropertyDescriptor", fixes(undefined()), isFrozen, nil, typeError(), true, false, "wec", "wec"},
		{"none", "getOwnPropertyDescriptor", fixes(undefined()), isFrozen, false, nil, false, true, "wec", "wec"},
		{"an accessor", "getOwnPropertyDescriptor", lie, freeze, true, nil, false, false, "we", "we"},
		{"an accessor", "getOwnPropertyDescriptor", lie, isFrozen, false, nil, true, false, "wec", "wec"},
		{"fixed", "getOwnPropertyDescriptor", describes(data(num(1), "e")), isSealed, nil, typeError(), true, false, "wec", "wec"},
		{"other flags", "getOwnPropertyDescriptor", describes(data(num(9), "c")), freeze, true, nil, false, false, "e", "e"},
		{"nothing of a descriptor", "getOwnPropertyDescriptor", describes(api.Desc{}), freeze, nil, typeError(), false, false, "wec", "wec"},
		{"nothing but that it is configurable", "getOwnPropertyDescriptor", describes(api.Desc{Configurable: api.Yes}), freeze, true, nil, false, false, "e", "e"},
		// The prototype of what is frozen cannot be another one.
		{"another one", "getPrototypeOf", fixes(ref(1)), hardening, nil, typeError(), false, false, "e", "e"},
		{"the same", "getPrototypeOf", fixes(null()), hardening, []int{3}, nil, false, false, "e", "e"},
		{"another one", "getPrototypeOf", fixes(ref(1)), freeze, true, nil, false, false, "e", "e"},
	}
}

func TestTraps(t *testing.T) {
	for i, x := range refusals() {
		h := newHeap(t, 200, 10000, 9)
		object(t, h, null(), has("a", num(1)), has("b", num(2)))
		if x.shut {
			fix(h, 1)
		}
		object(t, h, null(), has(x.trap, num(1)))
		proxied(t, h, 1, 2)
		if x.does != nil {
			lay(t, h, 2, has(x.trap, ref(addNative(t, h, x.does(h)))))
		}
		y, want := x.act(3), fmt.Sprint(x.want)
		if x.wrong != nil {
			want = ""
		}
		if s, err := y.played(h); s != want || !sameError(err, x.wrong) {
			t.Errorf("%d: %s answers %s: %v: %s, %v; want %s, %v", i, x.trap, x.name, y, s, err, want, x.wrong)
		}
		if s := shapeOf(t, h, 1); s.Extensible != x.free || !sameDesc(s.Props[0].Desc, data(num(1), x.a)) || !sameDesc(s.Props[1].Desc, data(num(2), x.b)) {
			t.Errorf("%d: %s answers %s: %v: the target is %v", i, x.trap, x.name, y, s)
		}
	}
}
