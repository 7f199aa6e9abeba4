package records_test

// What is refused ahead of anything being done, and which refusal comes first.

import (
	"math"
	"slices"
	"testing"

	"cameo/api"
	"cameo/heap"
)

// guarded is a heap of three objects, of which 1 and 2 fail the test when they are asked for anything; 2 can be called.
func guarded(t *testing.T, room int) *heap.Heap {
	t.Helper()
	h, d := newHeap(t, 3+room, 50, 5), &diary{}
	d.meet = func(_ int, line string) error {
		t.Errorf("asked ahead of a refusal: %s", line)
		return api.ErrFuel
	}
	o := addSeer(t, h, d, null())
	f := ending(t, h, d, "f", null(), nil)
	for _, s := range append(names(), "length", "0", "constructor", "a") {
		lay(t, h, o, str(s), api.Desc{Get: f, Set: f})
	}
	made(t, h, null())
	return h
}

// fault is one thing that is wrong with what an act is given: rank is its place in the order of the promise; where is what it turns.
type fault struct {
	where string
	rank  int
	err   error
	turn  func(x *act)
}

// valueFaults is what may be wrong with a value.
func valueFaults(where string, rank int, turn func(x *act, v api.Value)) []fault {
	var l []fault
	for _, v := range broken() {
		l = append(l, fault{where, rank, api.ErrValue, func(x *act) { turn(x, v) }})
	}
	for _, v := range append(strangers(), ref(4)) {
		l = append(l, fault{where, rank + 1, api.ErrRef, func(x *act) { turn(x, v) }})
	}
	return l
}

func keyFaults() []fault {
	var l []fault
	for _, k := range brokenKeys() {
		l = append(l, fault{"k", 2, api.ErrValue, func(x *act) { x.k = k }})
	}
	return l
}

// objectFaults is numbers of no object.
func objectFaults() []fault {
	var l []fault
	for _, o := range []int{0, -1, 4, 65536, 65537, math.MinInt, math.MaxInt, 1<<32 + 1} {
		l = append(l, fault{"o", 1, api.ErrRef, func(x *act) { x.o = o }})
	}
	return l
}

func plainFaults(where string, rank int, err error, turn func(x *act, v api.Value)) []fault {
	var l []fault
	for _, v := range plain() {
		l = append(l, fault{where, rank, err, func(x *act) { turn(x, v) }})
	}
	return l
}

func fromFaults() []fault {
	var l []fault
	for _, d := range brokenDescs() {
		l = append(l, fault{"d", 1, api.ErrValue, func(x *act) { x.d = d }})
	}
	for _, v := range append(strangers(), ref(4)) {
		for _, d := range []api.Desc{{Value: v}, {Get: v}, {Set: v}, {Get: ref(2), Set: v}, {Get: v, Set: undefined()}, {Value: v, Writable: api.Yes, Enumerable: api.Yes, Configurable: api.No}} {
			l = append(l, fault{"d", 2, api.ErrRef, func(x *act) { x.d = d }})
		}
	}
	proto := func(x *act, v api.Value) { x.proto = v }
	l = append(l, valueFaults("proto", 3, proto)...)
	isNull := func(f fault) bool { x := act{}; f.turn(&x); return x.proto == null() }
	l = append(l, slices.DeleteFunc(plainFaults("proto", 5, api.ErrValue, proto), isNull)...)
	return append(l, fault{"room", 9, api.ErrFull, func(x *act) { x.o = -1 }}) // what From is not given tells the test that there is no room
}

func invokeFaults() []fault {
	v := func(x *act, v api.Value) { x.v = v }
	l := append(keyFaults(), valueFaults("v", 2, v)...)
	first := func(x *act, v api.Value) { x.args = append([]api.Value{v}, x.args...) }
	last := func(x *act, v api.Value) { x.args = append(x.args, v) }
	l = append(l, valueFaults("first", 2, first)...)
	l = append(l, valueFaults("last", 2, last)...)
	l = append(l, plainFaults("v", 5, typeError(), v)...)
	for _, n := range []int{1023, 1024, 3000} {
		l = append(l, fault{"long", 4, api.ErrLong, func(x *act) { x.args = append(x.args, slices.Repeat([]api.Value{num(1)}, n)...) }})
	}
	return l
}

func faults(name string) []fault {
	v := func(x *act, v api.Value) { x.v = v }
	switch name {
	case "From":
		return fromFaults()
	case "Invoke":
		return invokeFaults()
	case "Create", "Put":
		return slices.Concat(objectFaults(), keyFaults(), valueFaults("v", 2, v))
	case "Remove":
		return slices.Concat(objectFaults(), keyFaults())
	case "Species":
		return slices.Concat(objectFaults(), valueFaults("v", 2, v))
	}
	return append(valueFaults("v", 2, v), plainFaults("v", 5, typeError(), v)...)
}

// refused plays an act with faults, which must change nothing.
func refused(t *testing.T, h *heap.Heap, name string, want error, l ...fault) {
	t.Helper()
	x := act{name: name, o: 1, v: ref(1), k: str("a"), d: api.Desc{Get: ref(2), Set: ref(3), Enumerable: api.Yes}, proto: ref(1), args: []api.Value{num(1), ref(3)}}
	for _, f := range l {
		f.turn(&x)
	}
	if name == "From" && x.o == -1 {
		h = guarded(t, 0)
	}
	before, fuel := h.Shapes(), h.Fuel()
	if s, err := x.played(h); s != "" || !sameError(err, want) {
		t.Errorf("%s: %s, %v, want %v", name, s, err, want)
		for _, f := range l {
			t.Logf("%s %d %v", f.where, f.rank, f.err)
		}
	}
	if h.Fuel() != fuel || !sameShapes(h.Shapes(), before) {
		t.Errorf("%s: what is refused changes something: %v", name, h.Shapes())
	}
}

// Each refusal, and of two the one that is named first.
func TestRefused(t *testing.T) {
	for _, name := range all() {
		h, l := guarded(t, 1), faults(name)
		for i, f := range l {
			refused(t, h, name, f.err, f)
			for _, g := range l[:i] {
				first := f
				if g.rank < f.rank {
					first = g
				}
				if g.where != f.where {
					refused(t, h, name, first.err, g, f)
				}
			}
		}
	}
}

// Three at once, where the act has so many.
func TestRefusedThrice(t *testing.T) {
	for _, name := range all() {
		h, l := guarded(t, 1), faults(name)
		// One fault of each place and rank will do.
		l = slices.CompactFunc(l, func(f, g fault) bool { return f.where == g.where && f.rank == g.rank })
		for i, f := range l {
			for j, g := range l[:i] {
				for _, k := range l[:j] {
					if f.where == g.where || f.where == k.where || g.where == k.where {
						continue
					}
					first := slices.MinFunc([]fault{k, g, f}, func(a, b fault) int { return a.rank - b.rank })
					refused(t, h, name, first.err, k, g, f)
				}
			}
		}
	}
}

// Refusals cost nothing: they come without any fuel, and as deep as one may be.
func TestRefusedWithoutFuel(t *testing.T) {
	for _, name := range all() {
		h := guarded(t, 1)
		h.Refuel(0)
		for _, f := range faults(name) {
			refused(t, h, name, f.err, f)
		}
	}
	deep := newHeap(t, 3, 50, 1)
	made(t, deep, null())
	f := addNative(t, deep, func(api.Value, []api.Value) (api.Value, error) {
		for _, name := range all() {
			for _, f := range faults(name) {
				if f.where != "room" {
					refused(t, deep, name, f.err, f)
				}
			}
		}
		return null(), nil
	})
	made(t, deep, null())
	if _, err := deep.Call(f.Id, null(), nil); err != nil {
		t.Error(err)
	}
}

// On an empty heap there is nobody to be asked.
func TestEmptyHeap(t *testing.T) {
	h := newHeap(t, 0, 0, 1)
	for _, v := range []api.Value{ref(1), ref(65536)} {
		for _, name := range all() {
			(act{name: name, o: 1, v: v, d: api.Desc{Value: v}, proto: v}).is(t, h, 0, nil, api.ErrRef)
		}
	}
	for _, name := range []string{"To", "Length", "List", "Keys", "Invoke"} {
		for _, v := range plain() {
			(act{name: name, v: v}).is(t, h, 0, nil, typeError())
		}
	}
	from(api.Desc{}, null()).is(t, h, 0, nil, api.ErrFull)
}

// An error is told as it is, not as one that holds none.
func TestNoErrorIsNil(t *testing.T) {
	h := newHeap(t, 3, 100, 9)
	o := made(t, h, null())
	f := giving(t, h, num(1))
	lay(t, h, o, str("f"), open(f))
	for _, x := range []act{from(api.Desc{}, null()), to(o), lengthOf(o), list(o), keys(o), invoke(o, str("f")), create(o, str("a"), null()), put(o, str("a"), num(1)), remove(o, str("a")), species(o, null())} {
		if _, err := x.played(h); err != nil {
			t.Errorf("%s: %v", x.name, err)
		}
	}
}

// As many args as there may be are no fault.
func TestMostArgs(t *testing.T) {
	h := newHeap(t, 2, 100, 9)
	o, count := made(t, h, null()), 0
	lay(t, h, o, str("f"), open(addNative(t, h, func(_ api.Value, args []api.Value) (api.Value, error) {
		count = len(args)
		return args[len(args)-1], nil
	})))
	for _, n := range []int{1, 1023, 1024} {
		l := slices.Repeat([]api.Value{num(1)}, n)
		l[n-1] = num(2)
		invoke(o, str("f"), l...).is(t, h, 2, num(2), nil)
		if count != n {
			t.Errorf("%d args came, of %d", count, n)
		}
	}
	invoke(o, str("f"), slices.Repeat([]api.Value{num(1)}, 1025)...).is(t, h, 0, nil, api.ErrLong)
}
