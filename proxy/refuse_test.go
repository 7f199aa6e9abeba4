package proxy_test

// 19.12: New, Revoke and Parts: what they refuse, which refusal comes first, and what they answer.

import (
	"testing"

	"cameo/api"
	"cameo/array"
	"cameo/heap"
	"cameo/proxy"
)

// guarded is a heap with objects whose methods must not be asked: 1 is ordinary, 2 can be constructed, 3 is a proxy of 2 with the handler 1, 4 a revoked one; there is room for one more.
func guarded(t *testing.T, fuel, depth int) *heap.Heap {
	t.Helper()
	h := newHeap(t, 5, 0, depth)
	s := stage{t, h, &diary{names: map[int]string{}}}
	s.seer("O", null())
	s.builder("C", ref(1))
	s.proxy("P", 2, 1)
	revoked := s.proxy("Q", 2, 1)
	s.revoke(&revoked)()
	s.d.meet = func(_ int, line string) error {
		t.Errorf("asked: %s", line)
		return api.ErrFull
	}
	h.Refuel(fuel)
	return h
}

// wrongs is what may be wrong with a value, and what New says of it.
func wrongs() map[error][]api.Value {
	return map[error][]api.Value{api.ErrValue: broken(), api.ErrRef: append(strangers(), ref(6)), errNoObject: plain()}
}

var errNoObject = typeError()

// rank is the order in which New tells them: of the target, of the handler, and that one is no object last of all.
func rank(target bool, err error) int {
	switch {
	case err == errNoObject:
		return 3
	case target:
		return 1
	}
	return 2
}

// New refuses what is no value of the heap, of the target ahead of the handler, and throws at what is no object only then; that there is no room comes last of all.
func TestNewRefused(t *testing.T) {
	for _, full := range []bool{false, true} {
		h := guarded(t, 3, 4)
		if full {
			ordinary(t, h, null())
		}
		before := h.Shapes()
		for err, l := range wrongs() {
			for _, v := range l {
				for _, o := range []int{1, 2, 3, 4} {
					news(v, ref(o)).is(t, h, 0, nil, err)
					news(ref(o), v).is(t, h, 0, nil, err)
				}
				for other, m := range wrongs() {
					want := err
					if rank(false, other) < rank(true, err) {
						want = other
					}
					for _, w := range m {
						news(v, w).is(t, h, 0, nil, want)
					}
				}
			}
		}
		if full {
			for _, o := range []int{1, 2, 3, 4, 5} {
				news(ref(o), ref(o)).is(t, h, 0, nil, api.ErrFull)
			}
		}
		if !sameShapes(before, h.Shapes()) || h.Fuel() != 3 {
			t.Errorf("19.12: what is refused changes something: %v", h.Shapes())
		}
	}
}

// New takes any two objects, one for both, proxies and revoked ones; it costs nothing, and is not one deeper.
func TestNew(t *testing.T) {
	for target := 1; target <= 4; target++ {
		for handler := 1; handler <= 4; handler++ {
			h := guarded(t, 0, 1)
			before := h.Shapes()
			news(ref(target), ref(handler)).is(t, h, 0, 5, nil)
			tells(5).is(t, h, 0, pair{ref(target), ref(handler)}, nil)
			if !sameShapes(h.Shapes(), append(before, proxyShape())) {
				t.Errorf("19.12: %v", h.Shapes())
			}
			if class, e := h.Class(5); class != api.CProxy || e != api.OK {
				t.Errorf("%d, %v", class, e)
			}
			if can := target != 1; h.Callable(ref(5)) != can || h.Constructor(ref(5)) != can {
				t.Errorf("19: %v, %v", h.Callable(ref(5)), h.Constructor(ref(5)))
			}
		}
	}
}

// A proxy's shape tells nothing of its target, whatever is done with it.
func TestShape(t *testing.T) {
	h := newHeap(t, 9, 1000, 9)
	base := ordinary(t, h, null())
	target := ordinary(t, h, ref(base), has("a", num(1)))
	p := of(t, h, target, ordinary(t, h, null()))
	for _, x := range []act{defines(p, str("b"), open(num(1))), setProto(p, null()), sets(p, str("c"), num(1), ref(p)), deletes(p, str("a")), prevent(p)} {
		if s, err := x.played(h); s != "true" || err != nil {
			t.Errorf("%s: %s, %v", x.name, s, err)
		}
		looks(t, h, p, proxyShape())
	}
	looks(t, h, target, api.Shape{Class: api.COrdinary, Proto: null(), Props: []api.Prop{has("b", num(1)), has("c", num(1))}})
}

// Revoke and Parts refuse what is not there, then what is no proxy.
func TestRefused(t *testing.T) {
	h := guarded(t, 0, 1)
	list, err := array.Of(h, null(), values(0, 3))
	made(t, list, err)
	before := h.Shapes()
	for _, o := range append(nobody(), 6) {
		revokes(o).is(t, h, 0, nil, api.ErrRef)
		tells(o).is(t, h, 0, nil, api.ErrRef)
	}
	for _, o := range []int{1, 2, list} {
		revokes(o).is(t, h, 0, nil, api.ErrKind)
		tells(o).is(t, h, 0, nil, api.ErrKind)
	}
	tells(3).is(t, h, 0, pair{ref(2), ref(1)}, nil)
	tells(4).is(t, h, 0, pair{null(), null()}, nil)
	if !sameShapes(before, h.Shapes()) {
		t.Errorf("19.12: %v", h.Shapes())
	}
	empty := newHeap(t, 0, 0, 1)
	for _, o := range append(nobody(), 1) {
		revokes(o).is(t, empty, 0, nil, api.ErrRef)
		tells(o).is(t, empty, 0, nil, api.ErrRef)
	}
	news(ref(1), ref(1)).is(t, empty, 0, nil, api.ErrRef)
	news(null(), null()).is(t, empty, 0, nil, typeError())
}

// A proxy is revoked for ever, and no other one is: not those of it, and not those with the same parts.
func TestRevoke(t *testing.T) {
	h := newHeap(t, 20, 1000, 9)
	target, handler := ordinary(t, h, null(), has("a", num(1))), ordinary(t, h, null())
	p, same := of(t, h, target, handler), of(t, h, target, handler)
	outer, by := of(t, h, p, handler), of(t, h, target, p)
	before := h.Shapes()
	for range 3 {
		revokes(p).is(t, h, 0, struct{}{}, nil)
		tells(p).is(t, h, 0, pair{null(), null()}, nil)
		tells(same).is(t, h, 0, pair{ref(target), ref(handler)}, nil)
		tells(outer).is(t, h, 0, pair{ref(p), ref(handler)}, nil)
		tells(by).is(t, h, 0, pair{ref(target), ref(p)}, nil)
		gets(p, str("a"), null()).is(t, h, 1, nil, typeError())
		gets(same, str("a"), null()).is(t, h, 3, num(1), nil)
		gets(outer, str("a"), null()).is(t, h, 3, nil, typeError()) // Get of the handler's get, then of the revoked one
		gets(by, str("a"), null()).is(t, h, 2, nil, typeError())    // the handler itself throws
	}
	if !sameShapes(before, h.Shapes()) {
		t.Errorf("19.12: %v", h.Shapes())
	}
}

// Within a method as deep as one may be, New, Revoke and Parts do what they do anywhere.
func TestWithin(t *testing.T) {
	h := newHeap(t, 20, 5, 1)
	o := ordinary(t, h, null())
	f := addNative(t, h, func(api.Value, []api.Value) (api.Value, error) {
		p, err := proxy.New(h, ref(o), ref(o))
		made(t, p, err)
		tells(p).is(t, h, 0, pair{ref(o), ref(o)}, nil)
		revokes(p).is(t, h, 0, struct{}{}, nil)
		tells(p).is(t, h, 0, pair{null(), null()}, nil)
		return null(), nil
	})
	calls(f, null()).is(t, h, 1, null(), nil)
}

// An error is told as it is, not as one that holds none.
func TestNoErrorIsNil(t *testing.T) {
	h := newHeap(t, 60, 1000, 9)
	p := of(t, h, class(t, h), ordinary(t, h, null()))
	for _, m := range thirteen() {
		x := m.act.of(p)
		if x.v.Kind == api.KRef {
			x.v = null()
		}
		if _, err := x.played(h); err != nil {
			t.Errorf("%s: %v", x.name, err)
		}
	}
	for _, x := range []act{news(ref(1), ref(2)), tells(p), revokes(p)} {
		if _, err := x.played(h); err != nil {
			t.Errorf("%s: %v", x.name, err)
		}
	}
}
