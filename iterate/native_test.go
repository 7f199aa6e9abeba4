package iterate_test

// The functions that the package makes, and what these make, as objects among others (23.1, 23.2).

import (
	"testing"

	"cameo/api"
	"cameo/array"
	"cameo/convert"
	"cameo/heap"
	"cameo/iterate"
)

// natives is a heap whose objects 1 and 2 are prototypes, 3 an array of two, 4 a maker, and 5 a function that asks.
func natives(t *testing.T, kind, capacity int) *heap.Heap {
	t.Helper()
	h := newHeap(t, capacity, 1000, 9)
	object(t, h, null(), has("above", num(9)))
	object(t, h, ref(1))
	n, err := array.Of(h, null(), []api.Value{text("x"), yes()})
	made(t, n, err)
	makes(ref(1), kind, ref(2)).adds(t, h, 0, 4, nil, of(api.CNative, ref(1)))
	ask("Next", ref(1)).adds(t, h, 0, 5, nil, of(api.CNative, ref(1)))
	return h
}

// A maker and what asks are functions of the class CNative, whose prototype is what was asked for, without properties; they can be called, not constructed.
func TestFunctions(t *testing.T) {
	for _, kind := range kinds() {
		h := natives(t, kind, 60)
		for o := 4; o <= 5; o++ {
			if !h.Callable(ref(o)) || h.Constructor(ref(o)) {
				t.Errorf("23.1: %d: %v, %v", o, h.Callable(ref(o)), h.Constructor(ref(o)))
			}
			if n, err := h.Construct(o, nil, o); n != 0 || err != api.ErrKind || h.Fuel() != 1000 {
				t.Errorf("23.1: %d: %d, %v", o, n, err)
			}
			if s, e := convert.TypeOf(h, ref(o)); s != "function" || e != api.OK {
				t.Errorf("23.1: %d: %s, %v", o, s, e)
			}
		}
		makes(null(), kind, null()).adds(t, h, 0, 6, nil, of(api.CNative, null()))
		ask("Next", null()).adds(t, h, 0, 7, nil, of(api.CNative, null()))
		makes(ref(4), kind, ref(5)).adds(t, h, 0, 8, nil, of(api.CNative, ref(4)))
		ask("Call", ref(6), ref(3)).adds(t, h, 1, ref(9), nil, of(api.CIterator, null()))
		ask("Call", ref(8), ref(8)).adds(t, h, 1, ref(10), nil, of(api.CIterator, ref(5)))
		if h.Callable(ref(9)) || h.Callable(ref(10)) || h.Constructor(ref(9)) {
			t.Errorf("23.1: an iterator can be called")
		}
	}
}

// like holds an object against an ordinary one, of which all the same is done; each says the same, for the same.
func like(t *testing.T, h *heap.Heap, o int) {
	t.Helper()
	proto, _ := h.GetPrototypeOf(o)
	twin := object(t, h, proto)
	for _, do := range []func(o int) (string, error){
		func(o int) (string, error) { return said(h.GetPrototypeOf(o)) },
		func(o int) (string, error) { return said(h.DefineOwnProperty(o, str("a"), data(text("own"), "c"))) },
		func(o int) (string, error) { return said(h.DefineOwnProperty(o, str("a"), data(num(7), "wec"))) },
		func(o int) (string, error) { return said(h.Set(o, str("7"), num(8), ref(o))) },
		func(o int) (string, error) { return said(h.Set(o, str("above"), num(8), ref(o))) },
		func(o int) (string, error) { return said(h.Get(o, str("above"), ref(o))) },
		func(o int) (string, error) { return said(h.Get(o, str("none"), ref(o))) },
		func(o int) (string, error) { return said(h.HasProperty(o, str("7"))) },
		func(o int) (string, error) { return said(h.Delete(o, str("a"))) },
		func(o int) (string, error) { return said(h.OwnPropertyKeys(o)) },
		func(o int) (string, error) {
			d, there, err := h.GetOwnProperty(o, str("7"))
			return said(stepped{d.Value, there}, err)
		},
		func(o int) (string, error) { return said(h.SetPrototypeOf(o, ref(1))) },
		func(o int) (string, error) { return said(h.PreventExtensions(o)) },
		func(o int) (string, error) { return said(h.SetPrototypeOf(o, null())) },
		func(o int) (string, error) { return said(h.IsExtensible(o)) },
		func(o int) (string, error) { return said(h.Set(o, str("new"), num(1), ref(o))) },
	} {
		fuel := h.Fuel()
		got, err := do(o)
		spent := fuel - h.Fuel()
		want, wrong := do(twin)
		if got != want || !sameError(err, wrong) || fuel-h.Fuel() != 2*spent {
			t.Errorf("23.1: %d: %s, %v; an ordinary one: %s, %v", o, got, err, want, wrong)
		}
	}
	s := shapeOf(t, h, twin)
	s.Class, _ = h.Class(o)
	looks(t, h, o, s)
}

// All of them have the ordinary methods; what is done so to an array iterator, and to the functions, changes nothing of how it is asked.
func TestOrdinaryMethods(t *testing.T) {
	for _, kind := range kinds() {
		h := natives(t, kind, 60)
		ask("Call", ref(4), ref(3)).adds(t, h, 1, ref(6), nil, of(api.CIterator, ref(2)))
		for o := 4; o <= 6; o++ {
			like(t, h, o)
		}
		want := []api.Value{num(0), text("x"), {}}[kind-1]
		cost := map[int]int{api.IKeys: 2}[kind]
		if cost == 0 {
			cost = 3
		}
		n := h.Len()
		if kind == api.IEntries {
			ask("Call", ref(5), ref(6)).adds(t, h, cost, ref(n+2), nil, listed(num(0), text("x")), result(ref(n+1), no()))
		} else {
			ask("Call", ref(5), ref(6)).adds(t, h, cost, ref(n+1), nil, result(want, no()))
		}
		n = h.Len()
		ask("Call", ref(4), ref(3)).adds(t, h, 1, ref(n+1), nil, of(api.CIterator, ref(2)))
	}
}

// What the functions are called with, beside the receiver, and by whom, does not count: as methods, as traps' and getters' functions, bound to a receiver.
func TestCalledByOthers(t *testing.T) {
	h := natives(t, api.IValues, 60)
	lay(t, h, 3, is("it", accessor(ref(4), undefined(), "ec")))
	lay(t, h, 2, got("next", 5))
	// A getter that makes an iterator of what it is asked of; one that asks the iterator that it is asked of.
	fuel := h.Fuel()
	it, err := h.Get(3, str("it"), ref(3))
	if it != ref(6) || err != nil || fuel-h.Fuel() != 2 {
		t.Fatalf("23.1: %v, %v", it, err)
	}
	looks(t, h, 6, of(api.CIterator, ref(2)))
	r, err := h.Get(6, str("next"), it)
	if r != ref(7) || err != nil || fuel-h.Fuel() != 2+5 {
		t.Fatalf("23.2: %v, %v", r, err)
	}
	looks(t, h, 7, result(text("x"), no()))
	// Asked of another receiver it is that which counts.
	if it, err := h.Get(3, str("it"), ref(1)); it != ref(8) || err != nil {
		t.Fatalf("23.1: %v, %v", it, err)
	}
	if r, err := h.Get(6, str("next"), ref(8)); r != ref(9) || err != nil {
		t.Fatalf("23.2: %v, %v", r, err)
	}
	looks(t, h, 9, over())
	for _, v := range plain() {
		if r, err := h.Get(3, str("it"), v); r != (api.Value{}) || !sameError(err, typeError()) {
			t.Errorf("23.1: %v: %v, %v", v, r, err)
		}
	}
}

// Where there is no room, what is to be made stops it, and nothing can catch that.
func TestNoRoom(t *testing.T) {
	for _, kind := range kinds() {
		h := natives(t, kind, 6)
		ask("Call", ref(4), ref(3)).adds(t, h, 1, ref(6), nil, of(api.CIterator, ref(2)))
		ask("Call", ref(4), ref(3)).stays(t, h, 1, nil, api.ErrFull)
		ask("Call", ref(4), null()).stays(t, h, 1, nil, typeError())
		cost := map[int]int{api.IKeys: 2, api.IValues: 3, api.IEntries: 3}[kind]
		ask("Call", ref(5), ref(6)).stays(t, h, cost, nil, api.ErrFull)
		ask("Call", ref(5), ref(3)).stays(t, h, 1, nil, typeError())
		results(num(1), 1).stays(t, h, 0, nil, api.ErrFull)
		results(api.Value{}, 1).stays(t, h, 0, nil, api.ErrValue)
	}
}

// The kinds are three of the numbers that api gives; no other one is.
func TestKinds(t *testing.T) {
	h := newHeap(t, 60, 100, 9)
	for kind := -300; kind <= 300; kind++ {
		n, err := iterate.Maker(h, null(), kind, null())
		if is := kind == api.IKeys || kind == api.IValues || kind == api.IEntries; is != (err == nil) || is != (n > 0) || !is && err != api.ErrRange {
			t.Errorf("23.1: %d: %d, %v", kind, n, err)
		}
	}
}
