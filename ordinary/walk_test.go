package ordinary_test

// The methods that go from prototype to prototype, and into functions and receivers: each on all that may lie on the way, with every amount of fuel and every depth.

import (
	"reflect"
	"slices"
	"testing"

	"cameo/api"
	"cameo/heap"
)

// scene is what an object, its prototype, and so on have under the key k (the zero descriptor is nothing); and another object.
type scene struct {
	chain []api.Desc
	other api.Desc
	shut  bool // the other one is not extensible
}

// called is how a function was called.
type called struct {
	this api.Value
	args []api.Value
}

// stage is a scene in a heap: object 1 is a function that tells how it was called; the chain stands from its end on, o last; then the other object, and one that has nothing.
type stage struct {
	h               *heap.Heap
	o, other, empty int
	calls           *[]called
}

func k() api.Key { return str("k") }

func (s scene) built(t *testing.T) stage {
	t.Helper()
	calls := &[]called{}
	h := newHeap(t, 9, 0, api.MaxDepth)
	addFunction(t, h, func(h *heap.Heap, f int, this api.Value, args []api.Value) (api.Value, error) {
		*calls = append(*calls, called{this, slices.Clone(args)})
		return text("told"), nil
	})
	proto := null()
	for _, d := range slices.Backward(s.chain) {
		proto = ref(s.put(t, h, proto, d))
	}
	other := s.put(t, h, null(), s.other)
	if s.shut {
		shut(t, h, other)
	}
	return stage{h, proto.Id, other, made(t, h, ref(other)), calls}
}

// put is an object with something ahead of the key, and behind it.
func (s scene) put(t *testing.T, h *heap.Heap, proto api.Value, d api.Desc) int {
	t.Helper()
	o := made(t, h, proto)
	lay(t, h, o, str("ahead"), data(num(1), "wec"))
	lay(t, h, o, k(), d)
	lay(t, h, o, str("behind"), data(num(2), "wec"))
	return o
}

// outcome is what a call must come to: its answer, the functions that it calls, what it costs, how deep it goes, and what it changes.
type outcome struct {
	answer     any
	calls      []called
	cost, deep int
	change     func(l []api.Shape)
}

// plays holds a call against its outcome, with each depth, and as much fuel as it needs, less, and more.
func (s scene) plays(t *testing.T, name string, want outcome, call func(x stage) (any, error)) {
	t.Helper()
	for fuel := range want.cost + 2 {
		x := s.built(t)
		x.h.Refuel(fuel)
		s.ends(t, name, x, want, fuel, api.MaxDepth, call)
	}
	for depth := 1; depth <= want.deep; depth++ {
		for _, fuel := range []int{depth, depth + 1, want.cost + 5} {
			s.shallow(t, name, want, fuel, depth, call)
		}
	}
}

// shallow plays within functions that call one another, so that no more than depth is left.
func (s scene) shallow(t *testing.T, name string, want outcome, fuel, depth int, call func(x stage) (any, error)) {
	t.Helper()
	x := s.built(t)
	x.h.Refuel(1000)
	left := api.MaxDepth - depth
	var f int
	f = addFunction(t, x.h, func(h *heap.Heap, _ int, this api.Value, args []api.Value) (api.Value, error) {
		left--
		if left > 0 {
			return h.Call(f, this, args)
		}
		h.Refuel(fuel)
		s.ends(t, name, x, want, fuel, depth, call)
		return null(), nil
	})
	if _, err := x.h.Call(f, null(), nil); err != nil {
		t.Fatal(err)
	}
}

// ends makes the call, and holds what it came to against its outcome, or against the stop that the fuel or the depth asks for.
func (s scene) ends(t *testing.T, name string, x stage, want outcome, fuel, depth int, call func(x stage) (any, error)) {
	t.Helper()
	shapes := x.h.Shapes()
	answer, calls, rest := want.answer, want.calls, fuel-want.cost
	var stop error
	switch {
	case fuel < min(want.cost, depth+1):
		stop, rest = api.ErrFuel, 0
	case depth < want.deep:
		stop, rest = api.ErrDepth, fuel-depth-1
	case fuel < want.cost:
		stop, rest = api.ErrFuel, 0
	}
	if stop != nil {
		answer, calls = reflect.Zero(reflect.TypeOf(answer)).Interface(), nil
	} else if want.change != nil {
		want.change(shapes)
	}
	got, err := call(x)
	if got != answer || err != stop || x.h.Fuel() != rest {
		t.Fatalf("%s: %v, fuel %d, depth %d: %v, %v, %d left; want %v, %v, %d left", name, s, fuel, depth, got, err, x.h.Fuel(), answer, stop, rest)
	}
	if !slices.EqualFunc(*x.calls, calls, sameCall) {
		t.Fatalf("%s: %v: called %v, want %v", name, s, *x.calls, calls)
	}
	if !sameShapes(x.h.Shapes(), shapes) {
		t.Fatalf("%s: %v: %v, want %v", name, s, x.h.Shapes(), shapes)
	}
}

func sameCall(a, b called) bool { return a.this == b.this && slices.Equal(a.args, b.args) }

// chains is all chains of one to three objects.
func chains() [][]api.Desc {
	here := append(some(1), api.Desc{})
	few := []api.Desc{{}, data(num(1), "wec"), data(num(2), ""), accessor(ref(1), ref(1), ""), accessor(undefined(), undefined(), "c")}
	var l [][]api.Desc
	for _, a := range here {
		l = append(l, []api.Desc{a})
		for _, b := range here {
			l = append(l, []api.Desc{a, b})
		}
	}
	for _, a := range few {
		for _, b := range few {
			for _, c := range few {
				l = append(l, []api.Desc{a, b, c})
			}
		}
	}
	return l
}

// found is what the chain has first, and how many are entered for it.
func (s scene) found() (api.Desc, int) {
	for i, d := range s.chain {
		if d != (api.Desc{}) {
			return d, i + 1
		}
	}
	return api.Desc{}, len(s.chain)
}

func ofAccessor(d api.Desc) bool { return d.Get.Kind != api.KNone }

// 9.6
func TestHasProperty(t *testing.T) {
	t.Parallel()
	for _, c := range chains() {
		s := scene{chain: c}
		d, n := s.found()
		s.plays(t, "9.6", outcome{answer: d != api.Desc{}, cost: n, deep: n}, func(x stage) (any, error) { return x.h.HasProperty(x.o, k()) })
	}
}

// 9.7: the receiver is what the getter is called with, whatever it is, and nothing else.
func TestGet(t *testing.T) {
	t.Parallel()
	for _, c := range chains() {
		s := scene{chain: c}
		d, n := s.found()
		for _, receiver := range []api.Value{ref(2), ref(len(c) + 1), undefined(), null(), num(5), text("x")} {
			want := outcome{answer: undefined(), cost: n, deep: n}
			switch {
			case ofAccessor(d) && d.Get == ref(1):
				want = outcome{answer: text("told"), calls: []called{{this: receiver}}, cost: n + 1, deep: n + 1}
			case !ofAccessor(d) && d != api.Desc{}:
				want.answer = d.Value
			}
			s.plays(t, "9.7", want, func(x stage) (any, error) { return x.h.Get(x.o, k(), receiver) })
		}
	}
}

// sets is what Set must come to on a receiver that has own, or is no object at all.
func (s scene) sets(v, receiver api.Value, own api.Desc, extensible bool) outcome {
	d, n := s.found()
	no := outcome{answer: false, cost: n, deep: n}
	switch {
	case ofAccessor(d) && d.Set == ref(1):
		return outcome{answer: true, calls: []called{{receiver, []api.Value{v}}}, cost: n + 1, deep: n + 1}
	case ofAccessor(d), d.Writable == api.No, receiver.Kind != api.KRef:
		return no
	case own != api.Desc{} && own.Writable != api.Yes:
		return outcome{answer: false, cost: n + 1, deep: n + 1}
	case own == api.Desc{} && !extensible:
		return outcome{answer: false, cost: n + 2, deep: n + 1}
	}
	return outcome{answer: true, cost: n + 2, deep: n + 1, change: func(l []api.Shape) {
		props := &l[receiver.Id-1].Props
		for i, p := range *props {
			if p.Key == k() {
				(*props)[i].Desc.Value = v
				return
			}
		}
		*props = append(*props, api.Prop{Key: k(), Desc: data(v, "wec")})
	}}
}

// 9.8: the receiver is the object itself.
func TestSetOnItself(t *testing.T) {
	t.Parallel()
	for _, c := range chains() {
		s := scene{chain: c}
		o := ref(len(c) + 1)
		s.plays(t, "9.8", s.sets(num(7), o, c[0], true), func(x stage) (any, error) { return x.h.Set(x.o, k(), num(7), o) })
	}
}

// 9.8: the receiver is another object, which has its own, or may have none; what the receiver's prototypes have is nobody's matter.
func TestSetOnAnother(t *testing.T) {
	t.Parallel()
	for _, c := range chains() {
		for _, own := range append(some(1), api.Desc{}) {
			for _, shut := range []bool{false, true} {
				s := scene{chain: c, other: own, shut: shut}
				other, empty := ref(len(c)+2), ref(len(c)+3)
				s.plays(t, "9.8", s.sets(text("new"), other, own, !shut), func(x stage) (any, error) { return x.h.Set(x.o, k(), text("new"), other) })
				if !shut {
					s.plays(t, "9.8", s.sets(num(7), empty, api.Desc{}, true), func(x stage) (any, error) { return x.h.Set(x.o, k(), num(7), empty) })
				}
			}
		}
	}
}

// 9.8: the receiver is an object of the chain itself, or none at all.
func TestSetOnPrototypeAndNone(t *testing.T) {
	t.Parallel()
	for _, c := range chains() {
		s := scene{chain: c}
		last := ref(2)
		s.plays(t, "9.8", s.sets(num(7), last, c[len(c)-1], true), func(x stage) (any, error) { return x.h.Set(x.o, k(), num(7), last) })
		for _, v := range []api.Value{undefined(), null(), num(5), text("x"), {Kind: api.KBool, Bool: true}, {Kind: api.KSym, Id: 1}} {
			s.plays(t, "9.8", s.sets(ref(1), v, api.Desc{}, true), func(x stage) (any, error) { return x.h.Set(x.o, k(), ref(1), v) })
		}
	}
}

// 9.8: a setter's answer is nobody's matter: Set is true by it, and so it is where it answers false.
func TestSetterAnswers(t *testing.T) {
	for _, v := range []api.Value{{Kind: api.KBool}, undefined(), num(0), ref(1)} {
		h := newHeap(t, 2, 100, 9)
		f := addFunction(t, h, func(*heap.Heap, int, api.Value, []api.Value) (api.Value, error) { return v, nil })
		o := made(t, h, null())
		lay(t, h, o, k(), accessor(ref(f), ref(f), ""))
		yields(t, h, "9.8", 2, true, func() (bool, error) { return h.Set(o, k(), num(1), undefined()) })
		yields(t, h, "9.7", 2, v, func() (api.Value, error) { return h.Get(o, k(), undefined()) })
	}
}

// 9.7, 9.8: what a getter or setter throws, or stops with, ends all that was under way, is handed on itself, and leaves what was done.
func TestWhatEndsOnTheWay(t *testing.T) {
	for _, end := range []error{&api.Thrown{Kind: api.XValue, Value: num(7)}, &api.Thrown{Kind: api.XType}, api.ErrFull, api.ErrFuel, api.ErrDepth} {
		h := newHeap(t, 4, 100, 9)
		top := made(t, h, null())
		f := addFunction(t, h, func(h *heap.Heap, f int, this api.Value, args []api.Value) (api.Value, error) {
			h.Set(this.Id, str("done"), num(float64(len(args))), this)
			return api.Value{}, end
		})
		lay(t, h, top, k(), accessor(ref(f), ref(f), ""))
		o := made(t, h, ref(made(t, h, ref(top))))
		if v, err := h.Get(o, k(), ref(o)); v != (api.Value{}) || err != end {
			t.Errorf("9.7: %v, %v", v, err)
		}
		yields(t, h, "done", 1, num(0), func() (api.Value, error) { return h.Get(o, str("done"), null()) })
		if ok, err := h.Set(o, k(), num(1), ref(o)); ok || err != end {
			t.Errorf("9.8: %v, %v", ok, err)
		}
		yields(t, h, "done", 1, num(1), func() (api.Value, error) { return h.Get(o, str("done"), null()) })
		if s, _ := h.Shape(top); len(s.Props) != 1 || s.Props[0].Desc != accessor(ref(f), ref(f), "") {
			t.Errorf("%v", s)
		}
	}
}

// 9.6 to 9.8: a method that has to enter a prototype finds it as it is at that moment; a getter may turn everything.
func TestFunctionsChangeWhatIsLookedAt(t *testing.T) {
	h := newHeap(t, 4, 100, 9)
	o := made(t, h, null())
	f := addFunction(t, h, func(h *heap.Heap, f int, this api.Value, args []api.Value) (api.Value, error) {
		if ok, err := h.Delete(o, k()); !ok || err != nil {
			t.Errorf("9.9: %v, %v", ok, err)
		}
		if ok, err := h.DefineOwnProperty(o, k(), data(text("other"), "w")); !ok || err != nil {
			t.Errorf("9.5: %v, %v", ok, err)
		}
		return text("told"), nil
	})
	lay(t, h, o, k(), accessor(ref(f), undefined(), "c"))
	lay(t, h, o, str("behind"), data(num(1), ""))
	yields(t, h, "9.7", 4, text("told"), func() (api.Value, error) { return h.Get(o, k(), null()) })
	yields(t, h, "9.7", 1, text("other"), func() (api.Value, error) { return h.Get(o, k(), null()) })
	s, _ := h.Shape(o)
	if !slices.Equal(s.Props, []api.Prop{{Key: str("behind"), Desc: data(num(1), "")}, {Key: k(), Desc: data(text("other"), "w")}}) {
		t.Errorf("%v", s.Props)
	}
}
