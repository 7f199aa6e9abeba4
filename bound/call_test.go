package bound_test

// 18.1, 18.2: bound functions are called and constructed.

import (
	"slices"
	"strconv"
	"strings"
	"testing"

	"cameo/api"
	"cameo/bound"
	"cameo/heap"
)

// line is words behind one another.
func line(words ...string) string { return strings.Join(words, " ") }

// lists is arguments of every number and sort.
func lists() [][]api.Value {
	return [][]api.Value{nil, {undefined()}, {num(1), num(2)}, append(plain(), ref(1), ref(2)), values(100, 20)}
}

// 18.1: the receiver is the one that was bound, and the arguments stand behind those that were.
func TestCall(t *testing.T) {
	for _, this := range append(plain(), ref(1), ref(2)) {
		for _, first := range lists() {
			for _, rest := range lists() {
				steps := []string{silent, line(append([]string{"call", "f", tell(this)}, tellAll(slices.Concat(first, rest))...)...)}
				scene{name: "18.1", build: func(s stage) act {
					f := s.caller(null(), "f", text("told"), nil)
					made(s.t, s.h, null())
					return calls(s.bound(f, this, first...), text("nobody"), rest...)
				}, steps: steps, want: text("told")}.holds(t)
			}
		}
	}
}

// 18.1: it answers, throws and stops as the target does.
func TestCallEnds(t *testing.T) {
	steps := []string{silent, "call f null 1 2"}
	with := func(answer api.Value, err error) {
		t.Helper()
		scene{name: "18.1: the end", build: func(s stage) act {
			return calls(s.bound(s.builder(null(), "f", answer, err), null(), num(1)), ref(1), num(2))
		}, steps: steps, want: answer, wrong: err}.holds(t)
	}
	for _, v := range append(plain(), ref(1)) {
		with(v, nil)
	}
	for _, err := range ends() {
		with(api.Value{}, err)
	}
}

// 18.2: the target is the bound function's own one, where the bound function itself is to be it; else it stays.
func TestConstruct(t *testing.T) {
	for _, first := range lists() {
		for _, rest := range lists() {
			args := tellAll(slices.Concat(first, rest))
			for _, x := range []struct{ given, told int }{{4, 1}, {3, 3}, {1, 1}, {5, 5}} {
				steps := []string{silent, line(append([]string{"construct", "f", tell(ref(x.told))}, args...)...)}
				scene{name: "18.2", build: func(s stage) act {
					f := s.builder(null(), "f", ref(2), nil)
					made(s.t, s.h, null())
					s.builder(null(), "other", ref(2), nil)
					b := s.bound(f, text("nobody"), first...)
					s.bound(f, null()) // what is bound to the same target is another one
					return constructs(b, x.given, rest...)
				}, steps: steps, want: 2}.holds(t)
			}
		}
	}
	for _, err := range ends() {
		scene{name: "18.2: the end", build: func(s stage) act {
			b := s.bound(s.builder(null(), "f", api.Value{}, err), null(), num(1))
			return constructs(b, b, num(2))
		}, steps: []string{silent, "construct f #1 1 2"}, wrong: err}.holds(t)
	}
}

// 18.1, 18.2: what is bound again calls what is bound: the first receiver, and the first arguments first.
func TestBoundAgain(t *testing.T) {
	for n := 1; n <= 6; n++ {
		row := func(s stage) int {
			b := s.builder(null(), "f", ref(1), nil)
			for i := range n {
				b = s.bound(b, num(float64(-1-i)), values(10*i, i)...)
			}
			s.builder(null(), "other", ref(1), nil)
			return b
		}
		var args []api.Value
		var steps []string
		for i := range n {
			args = append(args, values(10*i, i)...)
			steps = append(steps, silent)
		}
		words := append(tellAll(args), `"x"`)
		scene{name: "18.1: again", build: func(s stage) act { return calls(row(s), ref(1), text("x")) },
			steps: append(steps, line(append([]string{"call", "f", "-1"}, words...)...)), want: ref(1)}.holds(t)
		for given := 1; given <= n+2; given++ {
			told := given
			if given <= n+1 {
				told = 1 // each of the row stands for the one beneath it
			}
			// A bound function that is beneath what is constructed is the target where its turn comes.
			scene{name: "18.2: again, target " + strconv.Itoa(given), build: func(s stage) act { return constructs(row(s), given, text("x")) },
				steps: append(steps[:n:n], line(append([]string{"construct", "f", tell(ref(told))}, words...)...)), want: 1}.holds(t)
		}
	}
}

// 18.2: a target that is bound to what is constructed is no part of its row: it stays.
func TestTargetAbove(t *testing.T) {
	scene{name: "18.2: above", build: func(s stage) act {
		b := s.bound(s.builder(null(), "f", ref(1), nil), null(), num(1))
		return constructs(b, s.bound(b, null(), num(2)), num(3))
	}, steps: []string{silent, "construct f #3 1 3"}, want: 1}.holds(t)
}

// counting is a native that writes down what it is called with.
func counting(t *testing.T, h *heap.Heap, this *api.Value, args *[]api.Value) int {
	t.Helper()
	return addNative(t, h, func(x api.Value, l []api.Value) (api.Value, error) {
		*this, *args = x, slices.Clone(l)
		return ref(1), nil
	})
}

// 18.1, 18.2: however many arguments that may be: the door's limit is one of those that are handed in there.
func TestManyArguments(t *testing.T) {
	h := newHeap(t, 60, 1<<20, 60)
	var this api.Value
	var args []api.Value
	b := counting(t, h, &this, &args)
	var want []api.Value
	for n := 1; n <= 40; n++ {
		more := values(len(want), api.MaxArgs)
		want = append(want, more...)
		b = bind(t, h, b, num(float64(n)), more...)
		if n > 3 && n%9 != 0 {
			continue
		}
		for _, rest := range []int{0, 1, api.MaxArgs - 1, api.MaxArgs} {
			l := values(len(want), rest)
			all := slices.Concat(want, l)
			calls(b, null(), l...).is(t, h, n+1, ref(1), nil)
			if this != num(1) || !slices.Equal(args, all) {
				t.Errorf("18.1: %v, %d args of %d", this, len(args), len(all))
			}
			args = nil
			constructs(b, b, l...).is(t, h, n+1, 1, nil)
			if this != ref(1) || !slices.Equal(args, all) {
				t.Errorf("18.2: %v, %d args of %d", this, len(args), len(all))
			}
		}
		calls(b, null(), values(0, api.MaxArgs+1)...).is(t, h, 0, nil, api.ErrLong)
		constructs(b, b, values(0, api.MaxArgs+1)...).is(t, h, 0, nil, api.ErrLong)
	}
}

// A body reads such arguments by their numbers.
func TestManyArgumentsOfABody(t *testing.T) {
	for _, at := range []int{0, 1023, 1024, 2047, 2048, 5000} {
		h := newHeap(t, 9, 1000, 9)
		f := class(t, h, api.Op{Code: api.OArg, A: at}, api.Op{Code: api.OReturn})
		b := bind(t, h, f, null(), values(0, 1024)...)
		want := undefined()
		if at < 2048 {
			want = num(float64(at))
		}
		calls(b, null(), values(1024, 1024)...).is(t, h, 4, want, nil)
		constructs(b, b, values(1024, 1024)...).is(t, h, 5, 3, nil)
	}
}

// Bodies see the receiver, new.target, and themselves: a bound function is never one of these by itself.
func TestBodies(t *testing.T) {
	for _, x := range []struct {
		code            int
		called, created api.Value // what a call answers; what is constructed, where that is an object
	}{{api.OThis, num(5), api.Value{}}, {api.OTarget, undefined(), ref(1)}, {api.OSelf, ref(1), ref(1)}} {
		h := newHeap(t, 9, 1000, 9)
		f := class(t, h, api.Op{Code: x.code}, api.Op{Code: api.OReturn})
		b := bind(t, h, bind(t, h, f, num(5)), num(6))
		calls(b, num(7)).is(t, h, 5, x.called, nil)
		n, err := h.Construct(b, nil, b)
		if err != nil || x.created.Kind == api.KRef && n != x.created.Id || x.created.Kind == api.KNone && n != 4 {
			t.Errorf("18.2: %d, %v", n, err)
		}
		// 3 methods of functions, Get of the prototype, 2 operations.
		if h.Fuel() != 1000-5-6 {
			t.Errorf("18.2: %d left", h.Fuel())
		}
	}
}

// What is constructed has the prototype that the target tells, not what the bound function does.
func TestPrototypeOfTheTarget(t *testing.T) {
	h := newHeap(t, 20, 1000, 9)
	f, own, other := class(t, h), made(t, h, null()), made(t, h, null())
	lay(t, h, f, has("prototype", ref(own)))
	b := bind(t, h, f, null())
	lay(t, h, b, has("prototype", ref(other)))
	twice := bind(t, h, b, null())
	for _, x := range []struct{ f, target, proto int }{{b, b, own}, {twice, twice, own}, {twice, b, own}, {b, f, own}, {b, twice, 0}, {f, b, other}} {
		o, err := h.Construct(x.f, nil, x.target)
		if err != nil {
			t.Fatal(err)
		}
		want := null()
		if x.proto != 0 {
			want = ref(x.proto)
		}
		if v, err := h.GetPrototypeOf(o); v != want || err != nil {
			t.Errorf("18.2: %v: %v, %v, want %v", x, v, err, want)
		}
	}
}

// Operations, getters and setters call what is bound.
func TestCalledFromWithin(t *testing.T) {
	h := newHeap(t, 20, 1000, 9)
	f := class(t, h, api.Op{Code: api.OArg, A: 1}, api.Op{Code: api.OReturn})
	b := bind(t, h, f, null(), num(1))
	o := made(t, h, null())
	lay(t, h, o, api.Prop{Key: str("a"), Desc: api.Desc{Get: ref(b), Set: ref(b)}})
	with := bind(t, h, f, null(), num(1), num(2))
	lay(t, h, o, got("b", ref(with)))
	if v, err := h.Get(o, str("b"), ref(o)); v != num(2) || err != nil {
		t.Errorf("18.1: %v, %v", v, err)
	}
	if ok, err := h.Set(o, str("a"), num(3), ref(o)); !ok || err != nil {
		t.Errorf("18.1: %v, %v", ok, err)
	}
	caller := fn(t, h, api.Op{Code: api.OConst, Val: ref(b)}, api.Op{Code: api.OConst, To: 1, Val: text("x")}, api.Op{Code: api.OCall, To: 2, A: 0, B: 1, C: 1}, api.Op{Code: api.OReturn, A: 2})
	calls(caller, null()).is(t, h, 1+4+4, text("x"), nil)
	maker := fn(t, h, api.Op{Code: api.OConst, Val: ref(b)}, api.Op{Code: api.ONew, To: 2, A: 0, B: 0}, api.Op{Code: api.OReturn, A: 2})
	calls(maker, null()).is(t, h, 1+3+2+1+2, ref(b), nil) // the body answers its second argument, which is an object
}

// A bound function is an object as others are: its length and name are no more than properties.
func TestOrdinaryMethods(t *testing.T) {
	h := newHeap(t, 9, 1000, 9)
	o := made(t, h, null())
	f := fn(t, h, api.Op{Code: api.OThis}, api.Op{Code: api.OReturn})
	b := bind(t, h, f, text("bound"), num(1))
	for _, k := range []string{"length", "name"} {
		if ok, err := h.Set(b, str(k), num(9), ref(b)); ok || err != nil {
			t.Errorf("18: Set: %v, %v", ok, err)
		}
		if ok, err := h.DefineOwnProperty(b, str(k), api.Desc{Value: num(9)}); !ok || err != nil {
			t.Errorf("18: Define: %v, %v", ok, err)
		}
	}
	if l, err := h.OwnPropertyKeys(b); !slices.Equal(l, []api.Key{str("length"), str("name")}) || err != nil {
		t.Errorf("18: %v, %v", l, err)
	}
	if ok, err := h.Delete(b, str("name")); !ok || err != nil {
		t.Errorf("18: Delete: %v, %v", ok, err)
	}
	if ok, err := h.Set(b, str("a"), num(1), ref(b)); !ok || err != nil {
		t.Errorf("18: Set: %v, %v", ok, err)
	}
	if ok, err := h.SetPrototypeOf(b, ref(o)); !ok || err != nil {
		t.Errorf("18: SetPrototypeOf: %v, %v", ok, err)
	}
	if ok, err := h.PreventExtensions(b); !ok || err != nil {
		t.Errorf("18: PreventExtensions: %v, %v", ok, err)
	}
	if ok, err := h.IsExtensible(b); ok || err != nil {
		t.Errorf("18: IsExtensible: %v, %v", ok, err)
	}
	if _, ok, err := h.GetOwnProperty(b, str("a")); !ok || err != nil {
		t.Errorf("18: GetOwnProperty: %v, %v", ok, err)
	}
	if ok, err := h.HasProperty(b, str("name")); ok || err != nil {
		t.Errorf("18: HasProperty: %v, %v", ok, err)
	}
	calls(b, null()).is(t, h, 4, text("bound"), nil)
	targetOf(b).is(t, h, 0, binding{f, text("bound"), values(1, 1)}, nil)
	looks(t, h, b, api.Shape{Class: api.CBound, Proto: ref(o), Props: []api.Prop{told("length", num(9)), has("a", num(1))}})
}

// The target may change while what is bound stays: it is called as it is then.
func TestTargetOfItsOwn(t *testing.T) {
	h := newHeap(t, 9, 1000, 9)
	f := fn(t, h, api.Op{Code: api.OSelf}, api.Op{Code: api.OGet, To: 1, Key: str("a")}, api.Op{Code: api.OReturn, A: 1})
	b := bind(t, h, f, null())
	for n := range 3 {
		v := num(float64(n))
		lay(t, h, f, has("a", v))
		calls(b, null()).is(t, h, 2+3+1, v, nil)
	}
	if o, _, _, e := bound.Target(h, b); o != f || e != api.OK {
		t.Errorf("%d, %v", o, e)
	}
}
