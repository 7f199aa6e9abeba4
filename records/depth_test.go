package records_test

// The calls are no methods that are entered: they are not one deeper; what they enter is, and may be too deep.

import (
	"strconv"
	"testing"

	"cameo/api"
	"cameo/heap"
)

// deep is an act that asks an object through so many getters, setters or functions within one another, and then answers, or stops.
type deep struct {
	name  string
	need  int // how deep it must be able to go
	spend int // what it costs, if it is
	until int // what it has cost where one less is all there is
	build func(t *testing.T, h *heap.Heap) act
	want  any
}

func deeps() []deep {
	object := func(t *testing.T, h *heap.Heap, props ...api.Prop) int {
		o := made(t, h, null())
		for _, p := range props {
			lay(t, h, o, p.Key, p.Desc)
		}
		return o
	}
	return []deep{
		{"To", 1, 7, 1, func(t *testing.T, h *heap.Heap) act { return to(object(t, h, has("value", num(1)))) }, api.Desc{Value: num(1)}},
		{"To, inherited", 2, 12, 2, func(t *testing.T, h *heap.Heap) act { return to(made(t, h, ref(object(t, h)))) }, api.Desc{}},
		{"To, a getter", 2, 6 + 1 + 3, 3 + 1 + 1, func(t *testing.T, h *heap.Heap) act {
			return to(object(t, h, got("value", giving(t, h, num(1)))))
		}, api.Desc{Value: num(1)}},
		{"Length", 1, 1, 1, func(t *testing.T, h *heap.Heap) act { return lengthOf(object(t, h, has("length", num(1)))) }, 1},
		{"Length, a getter", 2, 4, 2, func(t *testing.T, h *heap.Heap) act {
			return lengthOf(object(t, h, got("length", giving(t, h, num(1)))))
		}, 1},
		{"Length, an object", 1, 6, 1, func(t *testing.T, h *heap.Heap) act {
			return lengthOf(object(t, h, has("length", ref(object(t, h, has("valueOf", giving(t, h, num(1))))))))
		}, 1},
		{"List", 1, 3, 1, func(t *testing.T, h *heap.Heap) act { return list(object(t, h, has("length", num(2)))) }, []api.Value{undefined(), undefined()}},
		{"List, a getter", 2, 2 + 3, 3, func(t *testing.T, h *heap.Heap) act {
			return list(object(t, h, has("length", num(1)), got("0", giving(t, h, num(1)))))
		}, []api.Value{num(1)}},
		{"Keys, a getter", 2, 2 + 3, 3, func(t *testing.T, h *heap.Heap) act {
			return keys(object(t, h, has("length", num(1)), got("0", giving(t, h, text("a")))))
		}, []api.Key{str("a")}},
		{"Invoke", 1, 1 + 3, 1, func(t *testing.T, h *heap.Heap) act {
			return invoke(object(t, h, has("f", giving(t, h, num(1)))), str("f"))
		}, num(1)},
		{"Create", 1, 1, 1, func(t *testing.T, h *heap.Heap) act { return create(object(t, h), str("a"), num(1)) }, 0},
		{"Put", 2, 3, 2, func(t *testing.T, h *heap.Heap) act { return put(object(t, h), str("a"), num(1)) }, 0},
		{"Put, a setter", 2, 1 + 3, 2, func(t *testing.T, h *heap.Heap) act {
			return put(object(t, h, api.Prop{Key: str("a"), Desc: api.Desc{Set: giving(t, h, num(1))}}), str("a"), num(1))
		}, 0},
		{"Remove", 1, 1, 1, func(t *testing.T, h *heap.Heap) act { return remove(object(t, h), str("a")) }, 0},
		{"Species", 1, 2, 1, func(t *testing.T, h *heap.Heap) act {
			return species(object(t, h, has("constructor", ref(object(t, h)))), num(1))
		}, num(1)},
		{"Species, a getter", 2, 1 + 3 + 1, 2, func(t *testing.T, h *heap.Heap) act {
			return species(object(t, h, got("constructor", giving(t, h, ref(object(t, h))))), num(1))
		}, num(1)},
	}
}

// Within so many calls of natives, with as much depth as is needed, and with less.
func TestDepth(t *testing.T) {
	for _, x := range deeps() {
		for within := range 3 {
			for depth := max(within, 1); depth <= within+x.need+1; depth++ {
				h := newHeap(t, 9, 100, depth)
				a := x.build(t, h)
				cost, wrong := x.spend, error(nil)
				if depth < within+x.need {
					wrong = api.ErrDepth
				}
				if depth == within+x.need-1 {
					cost = x.until
				} else if wrong != nil {
					cost = 1
				}
				do := func() { t.Helper(); a.is(t, h, cost, x.want, wrong) }
				for range within {
					inner := do
					f := addNative(t, h, func(api.Value, []api.Value) (api.Value, error) {
						inner()
						return null(), nil
					})
					do = func() {
						if _, err := h.Call(f.Id, null(), nil); err != nil {
							t.Error(err)
						}
					}
				}
				t.Run(x.name+" "+strconv.Itoa(within)+" "+strconv.Itoa(depth), func(t *testing.T) { do() })
			}
		}
	}
}

// A program that asks itself ends by depth, or by fuel, whichever comes first.
func TestRoundAndRound(t *testing.T) {
	for _, fuel := range []int{1, 2, 5, 20, 1000} {
		h := newHeap(t, 2, fuel, 6)
		o := made(t, h, null())
		var within act
		f := addNative(t, h, func(api.Value, []api.Value) (api.Value, error) { // it never comes to an answer
			_, err := within.played(h)
			return api.Value{}, err
		})
		for _, s := range append(names(), "length", "0", "constructor", "a") {
			lay(t, h, o, str(s), api.Desc{Get: f, Set: f})
		}
		lay(t, h, o, str("f"), open(f))
		for _, x := range []act{to(o), lengthOf(o), list(o), keys(o), invoke(o, str("f")), invoke(o, str("a")), put(o, str("a"), num(1)), species(o, null())} {
			within = x
			h.Refuel(fuel)
			want := api.ErrFuel
			if fuel > 20 {
				want = api.ErrDepth
			}
			s, err := x.played(h)
			if s != "" || err != want && !(fuel == 20 && err == api.ErrDepth) {
				t.Errorf("%s with fuel %d: %s, %v", x.name, fuel, s, err)
			}
		}
	}
}
