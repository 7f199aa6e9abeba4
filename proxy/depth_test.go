package proxy_test

// Depth: a proxy's method is entered, and what it asks of its handler and of its target is one deeper, each behind the other.

import (
	"strconv"
	"testing"

	"cameo/api"
	"cameo/heap"
)

// deep is a handler, or a target, by which a method goes so deep; and what it has cost where one less is all there is.
type deep struct {
	name  string
	need  int
	until int
	trap  func(s stage, m method) int // the handler
}

func deeps() []deep {
	f := func(s stage, m method) api.Value { return ref(s.caller("f", m.takes[0].answers[0])) }
	return []deep{
		{"no trap", 2, 2, func(s stage, m method) int { return s.seer("H", null()) }},
		{"a trap", 2, 2, func(s stage, m method) int { return s.seer("H", null(), has(m.trap, f(s, m))) }},
		{"an inherited trap", 3, 3, func(s stage, m method) int {
			return s.seer("H", ref(s.seer("B", null(), has(m.trap, f(s, m)))))
		}},
		{"a getter of the trap", 3, 3, func(s stage, m method) int {
			v := f(s, m)
			return s.seer("H", null(), got(m.trap, s.caller("g", v)))
		}},
		{"a handler that is a proxy", 3, 3, func(s stage, m method) int {
			v := f(s, m)
			return s.proxy("J", s.seer("H", null(), has(m.trap, v)), s.seer("K", null()))
		}},
		{"a trap that is a proxy", 3, 4, func(s stage, m method) int {
			v := f(s, m)
			return s.seer("H", null(), has(m.trap, ref(s.proxy("F", v.Id, s.seer("K", null())))))
		}},
	}
}

// Within so many calls of natives, with as much depth as is needed, and with less.
func TestDepth(t *testing.T) {
	for _, m := range thirteen() {
		for _, x := range deeps() {
			for within := range 3 {
				for depth := max(within, 1); depth <= within+x.need+1; depth++ {
					h := newHeap(t, 60, 0, depth)
					s := stage{t, h, &diary{names: map[int]string{}}}
					target := m.cast(s)
					p := s.proxy("P", target, x.trap(s, m))
					a := m.act.of(p)
					do := func() {
						t.Helper()
						was := h.Fuel()
						_, err := a.played(h)
						spent := was - h.Fuel()
						switch {
						case depth == within && (err != api.ErrDepth || spent != 1),
							depth == within+1 && (err != api.ErrDepth || spent != 2),
							depth == within+x.need-1 && depth > within && (err != api.ErrDepth || spent != x.until),
							depth >= within+x.need && err != nil:
							t.Errorf("%s: %v, %d spent", x.name, err, spent)
						}
					}
					for range within {
						do = inside(t, h, do)
					}
					h.Refuel(100)
					t.Run(m.trap+" "+x.name+" "+strconv.Itoa(within)+" "+strconv.Itoa(depth), func(t *testing.T) { do() })
				}
			}
		}
	}
}

// inside is something that is done within one more method.
func inside(t *testing.T, h *heap.Heap, do func()) func() {
	t.Helper()
	f := addNative(t, h, func(api.Value, []api.Value) (api.Value, error) {
		do()
		return null(), nil
	})
	return func() {
		if _, err := h.Call(f, null(), nil); err != nil {
			t.Error(err)
		}
	}
}

// Behind a method that has ended, whichever way, one is as deep as before: as much can be done again.
func TestDepthIsLeft(t *testing.T) {
	for _, m := range thirteen() {
		h := newHeap(t, 60, 1<<20, 3)
		s := stage{t, h, &diary{names: map[int]string{}}}
		target := m.cast(s)
		p := s.proxy("P", target, s.seer("H", null(), has(m.trap, ref(s.caller("f", m.takes[0].answers[0])))))
		wrong := s.proxy("W", target, s.seer("H", null(), has(m.trap, ref(s.ending("g", thrown(num(1)))))))
		stop := s.proxy("S", target, s.seer("H", null(), has(m.trap, ref(s.ending("g", api.ErrFull)))))
		gone := s.proxy("G", target, target)
		s.revoke(&gone)()
		row := of(t, h, of(t, h, of(t, h, target, 1), 1), 1) // one too many
		for range 4 {
			for _, x := range []struct {
				o   int
				err error
			}{{p, nil}, {wrong, thrown(num(1))}, {stop, api.ErrFull}, {gone, typeError()}, {row, api.ErrDepth}} {
				if _, err := m.act.of(x.o).played(h); !sameError(err, x.err) {
					t.Errorf("%s: %v, not %v", m.trap, err, x.err)
				}
			}
		}
	}
}

// A trap that does to the proxy what it is the trap of never comes to an end by itself.
func TestRoundAndRound(t *testing.T) {
	for _, m := range thirteen() {
		for _, fuel := range []int{1, 2, 3, 10, 1000} {
			h := newHeap(t, 4000, 0, 9)
			var within act
			f := addNative(t, h, func(api.Value, []api.Value) (api.Value, error) {
				_, err := within.played(h)
				return api.Value{}, err
			})
			ordinary(t, h, null())
			p := of(t, h, f, ordinary(t, h, null(), has(m.trap, ref(f))))
			within = m.act.of(p)
			h.Refuel(fuel)
			want := api.ErrFuel
			if fuel > 100 {
				want = api.ErrDepth
			}
			if s, err := within.played(h); s != "" || err != want || want == api.ErrFuel && h.Fuel() != 0 {
				t.Errorf("%s with fuel %d: %s, %v", m.trap, fuel, s, err)
			}
		}
	}
}
