package records_test

// A scene is an act among objects that write down what is entered: it is played whole, with less fuel, and with each of its steps ending otherwise.

import (
	"fmt"
	"slices"
	"testing"

	"cameo/api"
	"cameo/heap"
)

// stage is the heap of a scene, while it is being built.
type stage struct {
	t *testing.T
	h *heap.Heap
	d *diary
}

// seer is a new object that writes down what is entered, with some properties.
func (s stage) seer(proto api.Value, props ...api.Prop) int {
	s.t.Helper()
	o := addSeer(s.t, s.h, s.d, proto)
	for _, p := range props {
		lay(s.t, s.h, o, p.Key, p.Desc)
	}
	return o
}

// ending is a native that ends so.
func (s stage) ending(name string, v api.Value, err error) api.Value {
	s.t.Helper()
	return ending(s.t, s.h, s.d, name, v, err)
}

// has is a property of data.
func has(k string, v api.Value) api.Prop { return api.Prop{Key: str(k), Desc: open(v)} }

// got is a property that a getter tells.
func got(k string, f api.Value) api.Prop {
	return api.Prop{Key: str(k), Desc: api.Desc{Get: f, Configurable: api.Yes}}
}

// scene builds a heap, whose act must write these lines, and come to that.
type scene struct {
	name  string
	build func(s stage) act
	lines []string
	want  any
	wrong error
}

func (x scene) built(t *testing.T, fuel int) (*heap.Heap, *diary, act) {
	t.Helper()
	h, d := newHeap(t, 20, 0, 9), &diary{}
	a := x.build(stage{t, h, d})
	h.Refuel(fuel)
	return h, d, a
}

// comes plays the scene, and holds it against what it must come to.
func (x scene) comes(t *testing.T, fuel int, meet func(n int, line string) error, lines []string, want string, wrong error) {
	t.Helper()
	h, d, a := x.built(t, fuel)
	d.meet = meet
	answer, err := a.played(h)
	if answer != want || !sameError(err, wrong) || !slices.Equal(d.lines, lines) || fuel-h.Fuel() != len(lines) {
		t.Errorf("%s, with fuel %d: %s, %v, %q, %d spent; want %s, %v, %q", x.name, fuel, answer, err, d.lines, fuel-h.Fuel(), want, wrong, lines)
	}
}

// holds plays the scene in all ways.
func (x scene) holds(t *testing.T) {
	t.Helper()
	want := fmt.Sprint(x.want)
	if x.wrong != nil {
		want = ""
	}
	for more := range 3 {
		x.comes(t, len(x.lines)+more, nil, x.lines, want, x.wrong)
	}
	for n := range x.lines {
		x.comes(t, n, nil, x.lines[:n], "", api.ErrFuel)
		for _, err := range ends() {
			meet := func(at int, _ string) error {
				if at == n {
					return err
				}
				return nil
			}
			x.comes(t, 100, meet, x.lines[:n+1], "", err)
		}
	}
}
