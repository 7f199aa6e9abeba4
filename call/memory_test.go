package call_test

// What is handed in is neither changed nor kept, and what is handed out is new memory (R4).

import (
	"slices"
	"testing"

	"cameo/api"
	"cameo/call"
)

// spoil writes over a list, and over the room behind its end.
func spoil[T any](l []T, x T) {
	for i := range l[:cap(l)] {
		l[:cap(l)][i] = x
	}
}

// 11.2: the body that New was given is the caller's, the room behind its end, too.
func TestBodiesAreTheCallers(t *testing.T) {
	for _, ctor := range []bool{false, true} {
		h := newHeap(t, 9, 1000, 9)
		room := []api.Op{constant(0, text("x")), op(api.OMove, 1, 0), give(1), throw(1), throw(1)}
		body, copied := room[:3], slices.Clone(room)
		one, two := function(t, h, ctor, body), function(t, h, ctor, body)
		calls(t, h, "11.2: as it was given", 4, text("x"), nil, one, null())
		if !slices.Equal(room, copied) {
			t.Errorf("11.2: what was handed in is changed: %v", room)
		}
		spoil(body, throw(3))
		for _, f := range []int{one, two} {
			calls(t, h, "11.2: what was handed in is kept", 4, text("x"), nil, f, null())
			if l, _, _ := call.Body(h, f); !slices.Equal(l, copied[:3]) {
				t.Errorf("11.2: what was handed in is kept: %v", l)
			}
		}
		l, _, _ := call.Body(h, one)
		again, _, _ := call.Body(h, one)
		spoil(l, throw(3))
		other, _, _ := call.Body(h, two)
		if !slices.Equal(again, copied[:3]) || !slices.Equal(other, copied[:3]) {
			t.Errorf("11.2: two answers share memory: %v, %v", again, other)
		}
		calls(t, h, "11.2: what was handed out is kept", 4, text("x"), nil, one, null())
		made := function(t, h, ctor, again) // made of what another one told
		spoil(again, throw(3))
		calls(t, h, "11.2: what was told and handed in", 4, text("x"), nil, made, null())
	}
}

// 11.3, 11.4: arguments are the caller's.
func TestArgumentsAreTheCallers(t *testing.T) {
	h := newHeap(t, 9, 1000, 9)
	f := ctor(t, h, op(api.OArg, 0, 1), op(api.OArg, 1, 2), op(api.OSelf, 2), give(0))
	room := []api.Value{num(1), ref(f), num(3), num(4)}
	copied := slices.Clone(room)
	calls(t, h, "11.3", 5, ref(f), nil, f, null(), room[:2]...)
	builds(t, h, "arguments", 6, f, nil, f, f, room[:2]...)
	if !slices.Equal(room, copied) {
		t.Errorf("what was handed in is changed: %v", room)
	}
}

// 11.3: what is thrown is new each time: who changes it changes nothing else.
func TestThrowsAreTheCallers(t *testing.T) {
	h := newHeap(t, 9, 1000, 9)
	value := fn(t, h, constant(0, num(7)), throw(0))
	kind := fn(t, h, at(str("a"), op(api.OGet)))
	for range 2 {
		for f, want := range map[int]error{value: thrown(num(7)), kind: typeError()} {
			_, err := h.Call(f, null(), nil)
			if !sameError(err, want) {
				t.Errorf("11.3: %v", err)
			}
			*asThrown(err) = api.Thrown{Kind: 99, Value: text("junk")}
		}
	}
}

// 11.2: functions of two heaps know nothing of each other.
func TestHeapsAreApart(t *testing.T) {
	a, b := newHeap(t, 2, 10, 9), newHeap(t, 2, 20, 9)
	body := []api.Op{op(api.OSelf), op(api.OPrevent, 1, 0), give(0)}
	f, g := function(t, a, false, body), function(t, b, false, body)
	calls(t, a, "11.3", 5, ref(f), nil, f, null())
	if s, _ := b.Shape(g); !s.Extensible || b.Fuel() != 20 {
		t.Errorf("11.3: %v, %d", s, b.Fuel())
	}
}
