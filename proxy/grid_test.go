package proxy_test

// Every sort of target against every sort of answer: both readings come to the same, by the same steps.

import (
	"slices"
	"testing"

	"cameo/api"
	"cameo/array"
	"cameo/heap"
)

// arrayOf is a new array of the prototype null.
func arrayOf(h *heap.Heap, l []api.Value) (int, error) { return array.Of(h, null(), l) }

// wholes is whole descriptors of every sort; v and w are values, G and S functions.
func wholes() []api.Desc {
	l := []api.Desc{{}}
	flags := []api.Tri{api.No, api.Yes}
	for _, e := range flags {
		for _, c := range flags {
			for _, w := range flags {
				for _, v := range []api.Value{undefined(), num(1), num(below0)} {
					l = append(l, data(v, w, e, c))
				}
			}
			for _, g := range []api.Value{undefined(), funcG} {
				for _, s := range []api.Value{undefined(), funcS} {
					l = append(l, accessor(g, s, e, c))
				}
			}
		}
	}
	return l
}

// parts is descriptors with fields that are there, or not.
func parts() []api.Desc {
	var l []api.Desc
	tris := []api.Tri{api.Absent, api.No, api.Yes}
	for _, e := range tris {
		for _, c := range tris {
			for _, w := range tris {
				for _, v := range []api.Value{{}, undefined(), num(1), num(0)} {
					l = append(l, data(v, w, e, c))
				}
			}
			for _, g := range []api.Value{{}, undefined(), funcG, funcS} {
				for _, s := range []api.Value{{}, undefined(), funcS} {
					if g.Kind != api.KNone || s.Kind != api.KNone {
						l = append(l, accessor(g, s, e, c))
					}
				}
			}
		}
	}
	return l
}

// twin plays one act by both readings, each over a heap of its own, and holds them against each other.
func twin(t *testing.T, build func(s stage, read reading) act) {
	t.Helper()
	var texts [2]string
	var errs [2]error
	var lines [2][]string
	var fuel [2]int
	var shapes [2][]api.Shape
	for i, read := range []reading{byPackage, bySecond} {
		h, d := newHeap(t, 12, 0, 9), &diary{names: map[int]string{}}
		x := build(stage{t, h, d}, read)
		h.Refuel(100)
		texts[i], errs[i] = read(h, x)
		lines[i], fuel[i], shapes[i] = d.lines, h.Fuel(), h.Shapes()
	}
	if texts[0] != texts[1] || !sameError(errs[0], errs[1]) || !slices.Equal(lines[0], lines[1]) || fuel[0] != fuel[1] || !sameShapes(shapes[0], shapes[1]) {
		t.Fatalf("%s, %v, %q; want %s, %v, %q", texts[0], errs[0], lines[0], texts[1], errs[1], lines[1])
	}
}

// by is a proxy, by one of the readings.
func by(s stage, read reading, target, handler int) int {
	s.t.Helper()
	if _, err := read(s.h, news(ref(target), ref(handler))); err != nil {
		s.t.Fatal(err)
	}
	return s.h.Len()
}

// 19.4 and 19.5: each descriptor that a target may have against each that may be told of it.
func TestGridOfDescriptors(t *testing.T) {
	t.Parallel()
	for _, fixed := range []bool{false, true} {
		for _, now := range wholes() {
			for _, d := range parts() {
				props, _ := fields(d)
				twin(t, func(s stage, read reading) act {
					getters(s)
					r := s.seer("R", null(), props...)
					h := s.seer("H", null(), has("getOwnPropertyDescriptor", ref(s.caller("f", ref(r)))))
					return getOwn(by(s, read, targetOf(s, fixed, now), h), str("a"))
				})
				twin(t, func(s stage, read reading) act {
					getters(s)
					h := s.seer("H", null(), has("defineProperty", ref(s.caller("f", num(1)))))
					return defines(by(s, read, targetOf(s, fixed, now), h), str("a"), d)
				})
			}
		}
	}
}

// 19.4 and 19.6 to 19.9: each descriptor that a target may have against each sort of answer.
func TestGridOfAnswers(t *testing.T) {
	t.Parallel()
	a := str("a")
	for _, m := range []struct {
		trap string
		x    act
	}{{"getOwnPropertyDescriptor", getOwn(0, a)}, {"has", hasProp(0, a)}, {"get", gets(0, a, num(5))}, {"deleteProperty", deletes(0, a)}, {"set", sets(0, a, num(1), num(5))}, {"set", sets(0, a, undefined(), num(5))}, {"set", sets(0, a, num(0), num(5))}} {
		for _, fixed := range []bool{false, true} {
			for _, now := range wholes() {
				for _, v := range append(plain(), ref(1)) {
					twin(t, func(s stage, read reading) act {
						getters(s)
						h := s.seer("H", null(), has(m.trap, ref(s.caller("f", v))))
						return m.x.of(by(s, read, targetOf(s, fixed, now), h))
					})
				}
			}
		}
	}
}

// 19.10: each sort of target with up to three properties, against each row of up to four keys.
func TestGridOfKeys(t *testing.T) {
	t.Parallel()
	names := []string{"a", "b", "c", "d"}
	var rows [][]api.Value
	for n := range 5 {
		for i := range pow(4, n) {
			var l []api.Value
			for range n {
				l, i = append(l, text(names[i%4])), i/4
			}
			rows = append(rows, l)
		}
	}
	for sort := range pow(3, 3) { // each of a, b and c missing, configurable or fixed
		var props []api.Prop
		for i, rest := 0, sort; i < 3; i, rest = i+1, rest/3 {
			switch rest % 3 {
			case 1:
				props = append(props, has(names[i], num(1)))
			case 2:
				props = append(props, is(names[i], shut(num(1))))
			}
		}
		for _, fixed := range []bool{false, true} {
			for _, l := range rows {
				twin(t, func(s stage, read reading) act {
					r := listOf(s, l...)
					target := s.seer("T", null(), props...)
					if fixed {
						fix(s.h, target)
					}
					return keysOf(by(s, read, target, s.seer("H", null(), has("ownKeys", ref(s.caller("f", ref(r)))))))
				})
			}
		}
	}
}

func pow(x, n int) int {
	y := 1
	for range n {
		y *= x
	}
	return y
}
