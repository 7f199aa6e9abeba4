package heap_test

import (
	"math"
	"math/rand"
	"reflect"
	"slices"
	"testing"

	"cameo/api"
	"cameo/heap"
)

// acts is functions that do a little of everything behind the door that they are called through.
func acts() []act {
	return []act{
		func(d door, f int, this api.Value, args []api.Value) (api.Value, error) {
			if this.Kind != api.KRef {
				return num(float64(len(args))), nil
			}
			return d.Get(this.Id, str("a"), this)
		},
		func(d door, f int, this api.Value, args []api.Value) (api.Value, error) {
			return api.Value{}, &api.Thrown{Kind: api.XValue, Value: num(7)}
		},
		func(d door, f int, this api.Value, args []api.Value) (api.Value, error) {
			if this.Kind == api.KRef {
				d.Delete(this.Id, str("a")) // what it comes to is not looked at: a throw that is caught
			}
			return this, nil
		},
		func(d door, f int, this api.Value, args []api.Value) (api.Value, error) {
			v := undefined()
			if len(args) > 0 {
				v = args[0]
			}
			if this.Kind != api.KRef {
				return v, nil
			}
			if _, err := d.Set(this.Id, sym(3), v, this); err != nil {
				return api.Value{}, err
			}
			return v, nil
		},
		func(d door, f int, this api.Value, args []api.Value) (api.Value, error) {
			return api.Value{}, api.ErrFull
		},
		func(d door, f int, this api.Value, args []api.Value) (api.Value, error) {
			return d.Call(f, this, args)
		},
		func(d door, f int, this api.Value, args []api.Value) (api.Value, error) {
			n, err := d.Make(this)
			if err != nil {
				return api.Value{}, err
			}
			return ref(n), nil
		},
	}
}

// twins is a heap and its second reading.
type twins struct {
	h *heap.Heap
	m *model
	r *rand.Rand
}

func newTwins(r *rand.Rand) twins {
	room, fuel, depth := 8+r.Intn(8), r.Intn(60), 1+r.Intn(8)
	if r.Intn(4) == 0 {
		depth = 256
	}
	h, _ := heap.New(room, fuel, depth)
	w := twins{h, newModel(room, fuel, depth), r}
	for n, a := range acts() {
		if r.Intn(3) > 0 && n+1 < room {
			ctor := r.Intn(2) == 0
			addTo(h, a, ctor)
			w.m.add(a, ctor)
		}
	}
	return w
}

func (w twins) object() int { return w.r.Intn(w.m.Len()+3) - w.r.Intn(2) }

func (w twins) key() api.Key {
	few := []api.Key{str("a"), str("b"), str("2"), str("10"), str("01"), sym(3), sym(1), str("")}
	if w.r.Intn(40) == 0 {
		return []api.Key{str("\xff"), {Str: "a", Sym: 1}, sym(-1), sym(65537)}[w.r.Intn(4)]
	}
	return few[w.r.Intn(len(few))]
}

func (w twins) value() api.Value {
	switch n := w.r.Intn(30); {
	case n == 0:
		return broken()[w.r.Intn(len(broken()))]
	case n < 14:
		return ref(1 + w.r.Intn(w.m.Len()+1))
	case n < 18:
		return null()
	case n < 20:
		return undefined()
	}
	return []api.Value{num(1), num(0), num(math.Copysign(0, -1)), text("x"), {Kind: api.KBool, Bool: true}, {Kind: api.KSym, Id: 4}}[w.r.Intn(6)]
}

// broken is values that are not well formed.
func broken() []api.Value {
	return []api.Value{
		{}, {Kind: 8}, {Kind: -1}, {Num: 1}, {Id: 1}, {Kind: api.KUndefined, Num: 1}, {Kind: api.KNull, Id: 3}, {Kind: api.KBool, Str: "a"}, {Kind: api.KNum, Bool: true},
		{Kind: api.KStr, Id: 1}, {Kind: api.KStr, Str: "\xff"}, {Kind: api.KSym}, {Kind: api.KSym, Id: 65537}, {Kind: api.KSym, Id: 1, Num: 2},
		{Kind: api.KRef}, {Kind: api.KRef, Id: -1}, {Kind: api.KRef, Id: 65537}, {Kind: api.KRef, Id: 1, Str: "a"}, {Kind: api.KRef, Id: 1, Bool: true}, {Kind: api.KRef, Id: 1, Num: 1},
	}
}

func (w twins) desc() api.Desc {
	tri := func() api.Tri { return api.Tri(w.r.Intn(3)) }
	d := api.Desc{Enumerable: tri(), Configurable: tri()}
	switch w.r.Intn(3) {
	case 0:
		d.Value, d.Writable = w.value(), tri()
	case 1:
		d.Get, d.Set = w.function(), w.function()
	}
	if w.r.Intn(40) == 0 {
		d.Set, d.Writable = undefined(), api.Yes
	}
	return d
}

// function is what may stand for a getter or setter; the first objects are functions.
func (w twins) function() api.Value {
	return []api.Value{{}, undefined(), ref(1 + w.r.Intn(4)), ref(1 + w.r.Intn(6)), ref(1 + w.r.Intn(w.m.Len()+1))}[w.r.Intn(5)]
}

func (w twins) list() []api.Value {
	var l []api.Value
	for range w.r.Intn(3) {
		l = append(l, w.value())
	}
	if w.r.Intn(30) == 0 {
		l = append(l, slices.Repeat([]api.Value{null()}, 1023+w.r.Intn(3))...)
	}
	return l
}

// step is one call, with all that it is given; it is made behind each of two doors.
func (w twins) step() func(d door) []any {
	o, p, k, v, x, args, dd, n := w.object(), w.object(), w.key(), w.value(), w.value(), w.list(), w.desc(), w.r.Intn(40)
	answer := func(l ...any) []any { return l }
	steps := []func(d door) []any{
		func(d door) []any { return answer(d.Make(v)) },
		func(d door) []any { return answer(d.Check(v)) },
		func(d door) []any { return answer(d.Class(o)) },
		func(d door) []any {
			s, e := d.Shape(o)
			return answer(s.Class, s.Proto, s.Extensible, append([]api.Prop{}, s.Props...), e)
		},
		func(d door) []any { return answer(d.Callable(v), d.Constructor(v)) },
		func(d door) []any { return answer(d.Refuel(n - 1)) },
		func(d door) []any { return answer(d.GetPrototypeOf(o)) },
		func(d door) []any { return answer(d.SetPrototypeOf(o, v)) },
		func(d door) []any { return answer(d.IsExtensible(o)) },
		func(d door) []any { return answer(d.PreventExtensions(o)) },
		func(d door) []any { return answer(d.GetOwnProperty(o, k)) },
		func(d door) []any { return answer(d.DefineOwnProperty(o, k, dd)) },
		func(d door) []any { return answer(d.HasProperty(o, k)) },
		func(d door) []any { return answer(d.Get(o, k, v)) },
		func(d door) []any { return answer(d.Set(o, k, v, x)) },
		func(d door) []any { return answer(d.Set(o, k, v, ref(max(o, 1)))) },
		func(d door) []any { return answer(d.Delete(o, k)) },
		func(d door) []any {
			l, err := d.OwnPropertyKeys(o)
			return answer(slices.Clip(append([]api.Key{}, l...)), err)
		},
		func(d door) []any { return answer(d.Call(o, v, args)) },
		func(d door) []any { return answer(d.Construct(o, args, p)) },
		func(d door) []any { return answer(d.DefineOwnProperty(o, k, dd)) },
		func(d door) []any { return answer(d.SetPrototypeOf(o, ref(max(p, 1)))) },
	}
	at := w.r.Intn(len(steps))
	if at == 9 && w.r.Intn(4) > 0 { // PreventExtensions: or soon nothing could be defined any more
		at = 11
	}
	return steps[at]
}

func sameShapes(a, b []api.Shape) bool {
	return slices.EqualFunc(a, b, func(x, y api.Shape) bool {
		return x.Class == y.Class && x.Proto == y.Proto && x.Extensible == y.Extensible && slices.Equal(x.Props, y.Props)
	})
}

// 7.1 to 7.5, and what ordinary objects do (9.1 to 9.10): both readings answer the same, cost the same, and leave the same.
func TestTwoReadings(t *testing.T) {
	for seed := range int64(4000) {
		w := newTwins(rand.New(rand.NewSource(seed)))
		for n := range 50 {
			s := w.step()
			got, want := s(w.h), s(w.m)
			if !reflect.DeepEqual(got, want) || w.h.Fuel() != w.m.Fuel() {
				t.Fatalf("seed %d, step %d: %v with %d left, want %v with %d", seed, n, got, w.h.Fuel(), want, w.m.Fuel())
			}
			if !sameShapes(w.h.Shapes(), w.m.Shapes()) || w.h.Len() != w.m.Len() {
				t.Fatalf("seed %d, step %d: %v, want %v", seed, n, w.h.Shapes(), w.m.Shapes())
			}
		}
	}
}
