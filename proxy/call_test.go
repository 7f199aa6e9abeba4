package proxy_test

// 19.11: Call and Construct.

import (
	"slices"
	"strings"
	"testing"

	"cameo/api"
	"cameo/array"
	"cameo/bound"
	"cameo/heap"
)

// listed holds an array against what it must be: of the prototype null, with these values.
func listed(t *testing.T, h *heap.Heap, o int, l []api.Value) {
	t.Helper()
	s, e := h.Shape(o)
	got, wrong := array.Values(h, o, 1<<16)
	n, _ := array.Length(h, o)
	if e != api.OK || wrong != api.OK || s.Class != api.CArray || s.Proto != null() || !s.Extensible || int(n) != len(l) || len(s.Props) != len(l)+1 || !slices.EqualFunc(got, l, sameValue) {
		t.Errorf("19.11: %d is %v, %v", o, s, e)
	}
	for _, p := range s.Props[min(1, len(s.Props)):] {
		if !sameDesc(p.Desc, open(p.Desc.Value)) {
			t.Errorf("19.11: %v", p)
		}
	}
}

// 19.11: Call.
func TestCall(t *testing.T) {
	for _, args := range [][]api.Value{nil, {num(1)}, {undefined(), null(), text("x"), symbol(3), ref(1), ref(4), num(nan)}, values(0, 1024)} {
		for _, this := range []api.Value{undefined(), null(), text("t"), ref(1), ref(4)} {
			word := tell(this)
			if this.Kind == api.KRef {
				word = map[int]string{1: "T", 4: "P"}[this.Id]
			}
			for _, v := range append(plain(), ref(1)) {
				x := scene{name: "apply", steps: []string{silent, "get H apply H", "call f H T " + word + " #60"}, want: v, makes: 1, build: func(s stage) act {
					return calls(s.trapped(s.caller("T", num(3)), "apply", v), this, args...)
				}, left: func(t *testing.T, h *heap.Heap, n int) {
					switch {
					case n > 2:
						listed(t, h, 60, args)
					case n < 2 && h.Len() != 59:
						t.Errorf("made too early, at %d", n)
					}
				}}
				if v == num(1) {
					scenes(t, []scene{x})
				} else {
					whole(t, []scene{x})
				}
			}
			direct := scene{name: "no trap", steps: []string{silent, "get H apply H", strings.TrimSpace("call T " + word)}, want: num(3), build: func(s stage) act {
				return calls(s.proxy("P", s.caller("T", num(3)), s.seer("H", null())), this)
			}}
			if word != "P" { // it has another number there
				scenes(t, []scene{direct})
			}
		}
	}
}

// 19.11: Construct, with the proxy itself, the target, and others as the new target.
func TestConstruct(t *testing.T) {
	for _, args := range [][]api.Value{nil, {num(1)}, {undefined(), ref(1), ref(4), symbol(3)}, values(0, 1024)} {
		for _, other := range []string{"P", "T", "C", "Q"} {
			build := func(answer api.Value, handler func(s stage) int) func(s stage) act {
				return func(s stage) act {
					n := map[string]int{}
					n["T"] = s.builder("T", ref(3))
					n["C"] = s.builder("C", ref(3))
					n["Q"] = s.proxy("Q", n["C"], s.seer("K", null()))
					n["P"] = s.proxy("P", n["T"], handler(s))
					return constructs(n["P"], n[other], args...)
				}
			}
			trapped := func(v api.Value) func(s stage) act {
				return build(v, func(s stage) int { return s.seer("H", null(), has("construct", ref(s.caller("f", v)))) })
			}
			steps := []string{silent, "get H construct H", "call f H T #60 " + other}
			left := func(t *testing.T, h *heap.Heap, n int) {
				switch {
				case n > 2:
					listed(t, h, 60, args)
				case n < 2 && h.Len() != 59:
					t.Errorf("made too early, at %d", n)
				}
			}
			for _, n := range []int{1, 2, 3, 7} {
				scenes(t, []scene{{name: "construct", steps: steps, want: n, makes: 1, build: trapped(ref(n)), left: left}})
			}
			for _, v := range plain() {
				whole(t, []scene{{name: "no object " + tell(v), steps: steps, wrong: typeError(), makes: 1, build: trapped(v), left: left}})
			}
			direct := scene{name: "no trap", want: 3, build: build(null(), func(s stage) int { return s.seer("H", null()) })}
			d := &diary{names: map[int]string{1: "T", 4: "Q"}} // the names of what the arguments are
			direct.steps = []string{silent, "get H construct H", strings.Join(append([]string{"construct T " + other}, d.tellAll(args)...), " ")}
			scenes(t, []scene{direct})
		}
	}
}

// 19.11: without room for the array the trap is not called; without a trap none is needed.
func TestCallWithoutRoom(t *testing.T) {
	for _, x := range []struct {
		trap  string
		props func(s stage) []api.Prop
		steps []string
		wrong error
	}{
		{"apply", func(s stage) []api.Prop { return []api.Prop{has("apply", ref(s.caller("f", num(1))))} }, nil, api.ErrFull},
		{"apply", func(s stage) []api.Prop { return nil }, []string{"call T null 5"}, nil},
		{"apply", func(s stage) []api.Prop { return []api.Prop{has("apply", text("f"))} }, nil, typeError()},
		{"construct", func(s stage) []api.Prop { return []api.Prop{has("construct", ref(s.caller("f", ref(1))))} }, nil, api.ErrFull},
		{"construct", func(s stage) []api.Prop { return nil }, []string{"construct T P 5"}, nil},
		{"construct", func(s stage) []api.Prop { return []api.Prop{has("construct", text("f"))} }, nil, typeError()},
	} {
		var want any = ref(1)
		if x.trap == "construct" {
			want = 1
		}
		scenes(t, []scene{{name: x.trap, steps: append([]string{silent, "get H " + x.trap + " H"}, x.steps...), want: want, wrong: x.wrong, build: func(s stage) act {
			target := s.builder("T", ref(1))
			p := s.proxy("P", target, s.seer("H", null(), x.props(s)...))
			if x.trap == "construct" {
				return constructs(p, p, num(5))
			}
			return calls(p, null(), num(5))
		}}})
	}
}

// What can be called, or constructed, is settled when the proxy is made: a revoked one can still be.
func TestWhatItCan(t *testing.T) {
	h := newHeap(t, 60, 1000, 20)
	o, handler := ordinary(t, h, null()), ordinary(t, h, null())
	f, c := giving(t, h, num(3)), class(t, h)
	boundF, err := bound.Bind(h, f, null(), nil)
	made(t, boundF, err)
	boundC, err := bound.Bind(h, c, null(), nil)
	made(t, boundC, err)
	for _, x := range []struct {
		target            int
		callable, builder bool
	}{{o, false, false}, {f, true, false}, {c, true, true}, {boundF, true, false}, {boundC, true, true}} {
		p := x.target
		for deep := range 4 {
			p = of(t, h, p, handler)
			can := func() {
				t.Helper()
				if h.Callable(ref(p)) != x.callable || h.Constructor(ref(p)) != x.builder {
					t.Errorf("%d proxies of %d: %v, %v", deep+1, x.target, h.Callable(ref(p)), h.Constructor(ref(p)))
				}
			}
			can()
			q := of(t, h, p, handler)
			if deep == 3 {
				revokes(p).is(t, h, 0, struct{}{}, nil)
				can()
				for _, o := range []int{p, q} { // a proxy of a revoked one is as it was, too
					wrongCall, wrongNew := typeError(), typeError()
					if !x.callable {
						wrongCall = api.ErrKind
					}
					if !x.builder {
						wrongNew = api.ErrKind
					}
					_, err := h.Call(o, null(), nil)
					_, wrong := h.Construct(o, nil, o)
					if !sameError(err, wrongCall) || !sameError(wrong, wrongNew) {
						t.Errorf("%v, %v", err, wrong)
					}
				}
			}
		}
	}
}

// 19.11: bound functions hand on more arguments than the door lets in: without a trap the target gets them all, and a trap's array has them all.
func TestTooManyForTheDoor(t *testing.T) {
	h := newHeap(t, 60, 1000, 20)
	var seen []api.Value
	f := addNative(t, h, func(_ api.Value, l []api.Value) (api.Value, error) {
		seen = slices.Clone(l)
		return ref(1), nil
	})
	trap := addNative(t, h, func(_ api.Value, l []api.Value) (api.Value, error) {
		list := l[len(l)-1]
		if h.Callable(list) { // of construct the new target is the last one
			list = l[len(l)-2]
		}
		seen, _ = array.Values(h, list.Id, 1<<16)
		return ref(1), nil
	})
	bare := of(t, h, f, ordinary(t, h, null()))
	full := of(t, h, f, ordinary(t, h, null(), has("apply", ref(trap)), has("construct", ref(trap))))
	want := values(0, 2048)
	for _, p := range []int{bare, full, of(t, h, bare, ordinary(t, h, null())), of(t, h, full, ordinary(t, h, null()))} {
		b, err := bound.Bind(h, p, null(), want[:1024])
		made(t, b, err)
		seen = nil
		if v, err := h.Call(b, null(), want[1024:]); v != ref(1) || err != nil || !slices.Equal(seen, want) {
			t.Errorf("19.11: %v, %v, %d", v, err, len(seen))
		}
		seen = nil
		if n, err := h.Construct(b, want[1024:], b); n != 1 || err != nil || !slices.Equal(seen, want) {
			t.Errorf("19.11: %v, %v, %d", n, err, len(seen))
		}
		calls(p, null(), values(0, 1025)...).is(t, h, 0, nil, api.ErrLong)
		constructs(p, p, values(0, 1025)...).is(t, h, 0, nil, api.ErrLong)
	}
}

// 19.11: functions and classes behind a proxy run as they do without it; new.target is what it was.
func TestFunctionsBehind(t *testing.T) {
	h := newHeap(t, 60, 1000, 20)
	handler := ordinary(t, h, null())
	f := fn(t, h, api.Op{Code: api.OArg, A: 1}, api.Op{Code: api.OReturn})
	p := of(t, h, f, handler)
	calls(p, null(), num(1), text("b")).is(t, h, 1+1+1+2, text("b"), nil)
	c := class(t, h, api.Op{Code: api.OThis, To: 0}, api.Op{Code: api.OTarget, To: 1}, api.Op{Code: api.OSet, To: 2, A: 0, B: 1, Key: str("t")})
	base, other := ordinary(t, h, null()), ordinary(t, h, null())
	lay(t, h, c, has("prototype", ref(base)))
	q := of(t, h, c, handler)
	// Construct of q, Get of construct, Construct of c, Get of prototype (of q: three), three operations, Set of a new object (of its prototype, GetOwnProperty, DefineOwnProperty).
	constructs(q, q).is(t, h, 1+1+1+3+3+4, h.Len()+1, nil)
	looks(t, h, h.Len(), api.Shape{Class: api.COrdinary, Proto: ref(base), Extensible: true, Props: []api.Prop{has("t", ref(q))}})
	d := class(t, h)
	lay(t, h, d, has("prototype", ref(other)))
	constructs(q, d).is(t, h, 1+1+1+1+3+4, h.Len()+1, nil)
	looks(t, h, h.Len(), api.Shape{Class: api.COrdinary, Proto: ref(other), Extensible: true, Props: []api.Prop{has("t", ref(d))}})
}
