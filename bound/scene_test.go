package bound_test

// A scene is an act among objects that write down what is entered: it is played whole, with less fuel, and with each of its steps ending otherwise.

import (
	"fmt"
	"slices"
	"testing"

	"cameo/api"
	"cameo/heap"
)

// stage is the heap of a scene, while it is being built.
type stage struct {
	t *testing.T
	h *heap.Heap
	d *diary
}

func (s stage) add(class int, proto api.Value, m heap.Methods, p part, props []api.Prop) int {
	s.t.Helper()
	p.diary = s.d
	n, err := s.h.Add(class, proto, m, p)
	if err != nil {
		s.t.Fatal(err)
	}
	lay(s.t, s.h, n, props...)
	return n
}

// seer is a new object that writes down what is entered, with some properties; caller one that can be called, builder one that can be constructed, too.
func (s stage) seer(proto api.Value, props ...api.Prop) int {
	s.t.Helper()
	return s.add(api.COrdinary, proto, seer{}, part{}, props)
}

func (s stage) caller(proto api.Value, name string, answer api.Value, err error, props ...api.Prop) int {
	s.t.Helper()
	return s.add(api.CNative, proto, caller{}, part{name: name, answer: answer, err: err}, props)
}

func (s stage) builder(proto api.Value, name string, answer api.Value, err error, props ...api.Prop) int {
	s.t.Helper()
	return s.add(api.CNative, proto, builder{}, part{name: name, answer: answer, err: err}, props)
}

// getter is a function that ends so.
func (s stage) getter(name string, answer api.Value, err error) api.Value {
	s.t.Helper()
	return ref(s.caller(null(), name, answer, err))
}

// bound binds a function, without a line, and at no cost.
func (s stage) bound(f int, this api.Value, args ...api.Value) int {
	s.t.Helper()
	o := bind(s.t, s.h, f, this, args...)
	s.d.lines = nil
	return o
}

// silent is a step that costs a unit, and writes no line: a method of a bound function is entered.
const silent = "-"

// scene builds a heap, whose act must take these steps, and come to that.
type scene struct {
	name  string
	build func(s stage) act
	steps []string
	want  any
	wrong error
	room  int                                     // objects that there is room for; 40, if it is 0
	left  func(t *testing.T, h *heap.Heap, n int) // looks at what is there once the steps up to n were taken, and n has ended otherwise, or all were taken
}

// loud is the steps that write a line.
func loud(steps []string) []string {
	return slices.DeleteFunc(slices.Clone(steps), func(s string) bool { return s == silent })
}

// comes plays the scene, and holds it against what it must come to, having taken so many steps.
func (x scene) comes(t *testing.T, fuel, steps int, meet func(n int, line string) error, want string, wrong error) {
	t.Helper()
	room := x.room
	if room == 0 {
		room = 40
	}
	h, d := newHeap(t, room, 0, 9), &diary{}
	a := x.build(stage{t, h, d})
	h.Refuel(fuel)
	d.fuel, d.meet = fuel, meet
	answer, err := a.played(h)
	taken := x.steps[:steps]
	if answer != want || !sameError(err, wrong) || !slices.Equal(d.lines, loud(taken)) || fuel-h.Fuel() != steps {
		t.Errorf("%s, with fuel %d: %s, %v, %q, %d spent; want %s, %v, %q, %d", x.name, fuel, answer, err, d.lines, fuel-h.Fuel(), want, wrong, taken, steps)
	}
	if meet != nil {
		steps--
	}
	if x.left != nil {
		x.left(t, h, steps)
	}
}

// holds plays the scene in all ways.
func (x scene) holds(t *testing.T) {
	t.Helper()
	want := fmt.Sprint(x.want)
	if x.wrong != nil {
		want = ""
	}
	for more := range 3 {
		x.comes(t, len(x.steps)+more, len(x.steps), nil, want, x.wrong)
	}
	for n, step := range x.steps {
		x.comes(t, n, n, nil, "", api.ErrFuel)
		if step == silent {
			continue
		}
		line := len(loud(x.steps[:n]))
		for _, err := range ends() {
			meet := func(at int, _ string) error {
				if at == line {
					return err
				}
				return nil
			}
			x.comes(t, 100, n+1, meet, "", err)
		}
	}
}
