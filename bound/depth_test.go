package bound_test

// The package's calls are no methods that are entered: they are not one deeper. What they enter is, and so are the methods of what is bound.

import (
	"strconv"
	"testing"

	"cameo/api"
	"cameo/heap"
)

// deep is an act that enters methods within one another, and then answers, or stops.
type deep struct {
	name  string
	need  int // how deep it must be able to go
	spend int // what it costs, if it is
	until int // what it has cost where one less is all there is
	build func(t *testing.T, h *heap.Heap) act
	want  any
}

func deeps() []deep {
	instance := func(t *testing.T, h *heap.Heap, bindings int) (o, c api.Value) {
		base, f := made(t, h, null()), class(t, h)
		lay(t, h, f, has("prototype", ref(base)))
		o = ref(made(t, h, ref(made(t, h, ref(base)))))
		for range bindings {
			f = bind(t, h, f, null())
		}
		return o, ref(f)
	}
	row := func(t *testing.T, h *heap.Heap, bindings int) int {
		f := class(t, h, api.Op{Code: api.OArg, A: 0}, api.Op{Code: api.OReturn})
		for range bindings {
			f = bind(t, h, f, null(), text("x"))
		}
		return f
	}
	return []deep{
		{"Bind", 1, 4, 1, func(t *testing.T, h *heap.Heap) act {
			f := fn(t, h)
			lay(t, h, f, has("length", num(1)))
			return binds(f, null())
		}, 2},
		{"Bind, an inherited name", 2, 4, 4, func(t *testing.T, h *heap.Heap) act {
			f := fn(t, h)
			heap.Ordinary{}.SetPrototypeOf(h, f, ref(made(t, h, null())))
			return binds(f, null())
		}, 3},
		{"Bind, a getter of length", 2, 4 + 3, 4, func(t *testing.T, h *heap.Heap) act {
			f := fn(t, h)
			lay(t, h, f, got("length", ref(giving(t, h, num(1)))))
			return binds(f, null())
		}, 3},
		{"Bind, a bound getter of name", 3, 3 + 4, 5, func(t *testing.T, h *heap.Heap) act {
			f := fn(t, h)
			lay(t, h, f, got("name", ref(bind(t, h, giving(t, h, num(1)), null()))))
			return binds(f, null())
		}, 4},
		{"Call", 2, 4, 2, func(t *testing.T, h *heap.Heap) act { return calls(row(t, h, 1), null()) }, text("x")},
		{"Call of four", 5, 7, 5, func(t *testing.T, h *heap.Heap) act { return calls(row(t, h, 4), null()) }, text("x")},
		{"Construct", 3, 5, 3, func(t *testing.T, h *heap.Heap) act { b := row(t, h, 1); return constructs(b, b) }, 3},
		{"Construct of three", 5, 7, 5, func(t *testing.T, h *heap.Heap) act { b := row(t, h, 3); return constructs(b, b) }, 5},
		{"InstanceOf", 1, 4, 1, func(t *testing.T, h *heap.Heap) act { return isInstance(instance(t, h, 0)) }, true},
		{"InstanceOf a row", 1, 4 + 3, 1, func(t *testing.T, h *heap.Heap) act { return isInstance(instance(t, h, 3)) }, true},
		{"HasInstance", 1, 3, 1, func(t *testing.T, h *heap.Heap) act { o, c := instance(t, h, 0); return asInstance(c, o) }, true},
		{"HasInstance of a row", 1, 4 + 1, 1, func(t *testing.T, h *heap.Heap) act { o, c := instance(t, h, 2); return asInstance(c, o) }, true},
		{"InstanceOf by a method", 1, 1 + 3, 1, func(t *testing.T, h *heap.Heap) act {
			o := made(t, h, null())
			lay(t, h, o, hasInstance(ref(giving(t, h, num(1)))))
			return isInstance(null(), ref(o))
		}, true},
		{"InstanceOf by a bound method", 2, 1 + 4, 3, func(t *testing.T, h *heap.Heap) act {
			o := made(t, h, null())
			lay(t, h, o, hasInstance(ref(bind(t, h, giving(t, h, num(1)), null()))))
			return isInstance(null(), ref(o))
		}, true},
		{"InstanceOf by a getter", 2, 1 + 3 + 3, 2, func(t *testing.T, h *heap.Heap) act {
			o := made(t, h, null())
			getter := giving(t, h, ref(giving(t, h, num(1))))
			lay(t, h, o, api.Prop{Key: sym(api.SymHasInstance), Desc: api.Desc{Get: ref(getter)}})
			return isInstance(null(), ref(o))
		}, true},
		{"HasInstance, a getter", 2, 1 + 3 + 1, 2, func(t *testing.T, h *heap.Heap) act {
			c := fn(t, h)
			lay(t, h, c, got("prototype", ref(giving(t, h, ref(c)))))
			return asInstance(ref(c), ref(c))
		}, false},
	}
}

// Within so many calls of natives, with as much depth as is needed, and with less.
func TestDepth(t *testing.T) {
	for _, x := range deeps() {
		for within := range 3 {
			for depth := max(within, 1); depth <= within+x.need+1; depth++ {
				h := newHeap(t, 12, 100, depth)
				a := x.build(t, h)
				cost, wrong := x.spend, error(nil)
				switch {
				case depth == within:
					cost, wrong = 1, api.ErrDepth
				case depth == within+x.need-1:
					cost, wrong = x.until, api.ErrDepth
				case depth < within+x.need:
					cost, wrong = -1, api.ErrDepth // somewhere on the way
				}
				want := x.want
				if n, ok := want.(int); ok {
					want = n + within // the natives come ahead of what is made
				}
				do := func() {
					t.Helper()
					if cost >= 0 {
						a.is(t, h, cost, want, wrong)
					} else if s, err := a.played(h); s != "" || err != wrong {
						t.Errorf("%s: %s, %v", x.name, s, err)
					}
				}
				for range within {
					inner := do
					f := addNative(t, h, func(api.Value, []api.Value) (api.Value, error) {
						inner()
						return null(), nil
					})
					do = func() {
						if _, err := h.Call(f, null(), nil); err != nil {
							t.Error(err)
						}
					}
				}
				t.Run(x.name+" "+strconv.Itoa(within)+" "+strconv.Itoa(depth), func(t *testing.T) { do() })
			}
		}
	}
}

// A program that asks itself ends by depth, or by fuel, whichever comes first.
func TestRoundAndRound(t *testing.T) {
	for _, fuel := range []int{1, 2, 5, 1000} {
		h := newHeap(t, 4000, fuel, 6)
		var within act
		f := addNative(t, h, func(api.Value, []api.Value) (api.Value, error) { // it never comes to an answer
			_, err := within.played(h)
			return api.Value{}, err
		})
		b := bind(t, h, f, null())
		for _, k := range []string{"length", "name", "prototype"} {
			lay(t, h, f, got(k, ref(f)))
		}
		lay(t, h, f, hasInstance(ref(f)))
		for _, x := range []act{binds(f, null()), binds(f, ref(f), ref(f)), calls(b, null()), constructs(b, b), isInstance(null(), ref(f)), isInstance(null(), ref(b)), asInstance(ref(f), ref(f)), asInstance(ref(b), null())} {
			within = x
			h.Refuel(fuel)
			want := api.ErrFuel
			if fuel > 20 {
				want = api.ErrDepth
			}
			if s, err := x.played(h); s != "" || err != want {
				t.Errorf("%s with fuel %d: %s, %v", x.name, fuel, s, err)
			}
		}
	}
}

// A row of bound functions is as deep as it is long.
func TestDeepestRow(t *testing.T) {
	h := newHeap(t, 300, 2000, api.MaxDepth)
	b := class(t, h)
	for range api.MaxDepth - 2 {
		b = bind(t, h, b, null())
	}
	calls(b, null()).is(t, h, 255, undefined(), nil)
	constructs(b, b).is(t, h, 256, h.Len()+1, nil)
	b = bind(t, h, b, null())
	calls(b, null()).is(t, h, 256, undefined(), nil)
	constructs(b, b).is(t, h, 257, nil, api.ErrDepth)
	b = bind(t, h, b, null())
	calls(b, null()).is(t, h, 257, nil, api.ErrDepth)
	h.Refuel(200)
	calls(b, null()).is(t, h, 200, nil, api.ErrFuel)
}
