package mirror_test

// A scene is an act among objects that write down what is entered: it is played whole, with less fuel, depth and room, and with each of its steps ending otherwise.

import (
	"fmt"
	"slices"
	"strings"
	"testing"

	"cameo/api"
	"cameo/heap"
)

// diary is what was entered, in order: seers write down each of their methods.
type diary struct {
	lines []string
	fuel  int                            // what was left behind the last line
	meet  func(n int, line string) error // what happens at the line with that number, ahead of anything else
}

// seer is the methods of an ordinary object that writes down who asks it: its number, the method, and what it is given.
type seer struct{ heap.Ordinary }

// maker is those of one that can be called, and constructed, too: it answers one value.
type maker struct{ seer }

// role is what a maker has: the diary of all, and its answer.
type role struct {
	*diary
	answer api.Value
}

func diaryOf(h *heap.Heap, o int) *diary {
	if r, ok := h.Own(o).(role); ok {
		return r.diary
	}
	return h.Own(o).(*diary)
}

// note writes a line, unless the method was not entered: it is called within another one then, for nothing.
func note(h *heap.Heap, o int, words ...string) error {
	d := diaryOf(h, o)
	if len(d.lines) > 0 && h.Fuel() == d.fuel {
		return nil
	}
	line := strings.Join(append([]string{fmt.Sprint(o)}, words...), " ")
	d.lines, d.fuel = append(d.lines, line), h.Fuel()
	if d.meet == nil {
		return nil
	}
	return d.meet(len(d.lines)-1, line)
}

func (m seer) GetPrototypeOf(h *heap.Heap, o int) (api.Value, error) {
	if err := note(h, o, "proto"); err != nil {
		return api.Value{}, err
	}
	return m.Ordinary.GetPrototypeOf(h, o)
}

func (m seer) SetPrototypeOf(h *heap.Heap, o int, v api.Value) (bool, error) {
	if err := note(h, o, "reproto", fmt.Sprint(v)); err != nil {
		return false, err
	}
	return m.Ordinary.SetPrototypeOf(h, o, v)
}

func (m seer) IsExtensible(h *heap.Heap, o int) (bool, error) {
	if err := note(h, o, "ext"); err != nil {
		return false, err
	}
	return m.Ordinary.IsExtensible(h, o)
}

func (m seer) PreventExtensions(h *heap.Heap, o int) (bool, error) {
	if err := note(h, o, "prevent"); err != nil {
		return false, err
	}
	return m.Ordinary.PreventExtensions(h, o)
}

func (m seer) GetOwnProperty(h *heap.Heap, o int, k api.Key) (api.Desc, bool, error) {
	if err := note(h, o, "own", nameOf(k)); err != nil {
		return api.Desc{}, false, err
	}
	return m.Ordinary.GetOwnProperty(h, o, k)
}

func (m seer) DefineOwnProperty(h *heap.Heap, o int, k api.Key, d api.Desc) (bool, error) {
	if err := note(h, o, "define", nameOf(k), tellDesc(d)); err != nil {
		return false, err
	}
	return m.Ordinary.DefineOwnProperty(h, o, k, d)
}

func (m seer) HasProperty(h *heap.Heap, o int, k api.Key) (bool, error) {
	if err := note(h, o, "has", nameOf(k)); err != nil {
		return false, err
	}
	return m.Ordinary.HasProperty(h, o, k)
}

func (m seer) Get(h *heap.Heap, o int, k api.Key, receiver api.Value) (api.Value, error) {
	if err := note(h, o, "get", nameOf(k), fmt.Sprint(receiver)); err != nil {
		return api.Value{}, err
	}
	return m.Ordinary.Get(h, o, k, receiver)
}

func (m seer) Set(h *heap.Heap, o int, k api.Key, v, receiver api.Value) (bool, error) {
	if err := note(h, o, "set", nameOf(k), fmt.Sprint(v, receiver)); err != nil {
		return false, err
	}
	return m.Ordinary.Set(h, o, k, v, receiver)
}

func (m seer) Delete(h *heap.Heap, o int, k api.Key) (bool, error) {
	if err := note(h, o, "delete", nameOf(k)); err != nil {
		return false, err
	}
	return m.Ordinary.Delete(h, o, k)
}

func (m seer) OwnPropertyKeys(h *heap.Heap, o int) ([]api.Key, error) {
	if err := note(h, o, "keys"); err != nil {
		return nil, err
	}
	return m.Ordinary.OwnPropertyKeys(h, o)
}

func (m maker) Call(h *heap.Heap, f int, this api.Value, l []api.Value) (api.Value, error) {
	if err := note(h, f, "call", fmt.Sprint(this, l)); err != nil {
		return api.Value{}, err
	}
	return h.Own(f).(role).answer, nil
}

func (m maker) Construct(h *heap.Heap, f int, l []api.Value, target int) (int, error) {
	if err := note(h, f, "new", fmt.Sprint(l, target)); err != nil {
		return 0, err
	}
	return h.Own(f).(role).answer.Id, nil
}

// nameOf is a key as a word.
func nameOf(k api.Key) string {
	if k.Sym != 0 {
		return fmt.Sprintf("@%d", k.Sym)
	}
	return fmt.Sprintf("%q", k.Str)
}

// tellDesc is the fields of a descriptor that are there.
func tellDesc(d api.Desc) string {
	s := ""
	for i, v := range []api.Value{d.Value, d.Get, d.Set} {
		if v.Kind != api.KNone {
			s += []string{"value", "get", "set"}[i] + fmt.Sprint(v)
		}
	}
	for i, f := range []api.Tri{d.Writable, d.Enumerable, d.Configurable} {
		if f != api.Absent {
			s += "wec"[i:i+1] + "-+"[f-1:f]
		}
	}
	return s
}

// cast is objects by their numbers, as they must lie in a heap: shapes of ordinary objects, and of functions, which have an answer.
type cast struct {
	shapes  []api.Shape
	answers map[int]api.Value
}

// stage is what there is of fuel, depth and room for new objects.
type stage struct{ fuel, depth, room int }

// staged is a heap of seers that lie there so, and their diary.
func (c cast) staged(t *testing.T, s stage) (*heap.Heap, *diary) {
	t.Helper()
	h, d := newHeap(t, len(c.shapes)+s.room, s.fuel, s.depth), &diary{}
	for i, x := range c.shapes {
		var n int
		var err error
		if x.Class == api.CNative {
			n, err = h.Add(x.Class, null(), maker{}, role{d, c.answers[i+1]})
		} else {
			n, err = h.Add(x.Class, null(), seer{}, d)
		}
		made(t, n, err)
	}
	for i, x := range c.shapes {
		lay(t, h, i+1, x.Props...)
		if ok, err := (heap.Ordinary{}).SetPrototypeOf(h, i+1, x.Proto); !ok || err != nil {
			t.Fatalf("%d: %v, %v", i+1, ok, err)
		}
		if !x.Extensible {
			fix(h, i+1)
		}
	}
	return h, d
}

// copied is the same shapes, of which nothing is shared.
func copied(l []api.Shape) []api.Shape {
	l = slices.Clone(l)
	for i := range l {
		l[i].Props = slices.Clone(l[i].Props)
	}
	return l
}

// plot is what an act must do among such objects: its steps, in order, and what it comes to.
type plot struct {
	cast  cast
	lines []string      // what is entered; + of a new object, which writes nothing down
	deep  []int         // how deep that is
	left  [][]api.Shape // how all lies when it is entered; and behind all
	rooms []room
	want  any
	wrong error
}

// room is where an object is made: behind how many steps, and how all lies ahead of it.
type room struct {
	steps int
	left  []api.Shape
}

func newPlot(c cast) *plot { return &plot{cast: c, left: [][]api.Shape{copied(c.shapes)}} }

// now is the objects as they lie there behind the last step.
func (p *plot) now() []api.Shape { return p.left[len(p.left)-1] }

// step is one that may change an object.
func (p *plot) step(deep, o int, line string, change func(s *api.Shape)) {
	next := copied(p.now())
	if change != nil {
		change(&next[o-1])
	}
	line = fmt.Sprintf("%d %s", o, line)
	if o > len(p.cast.shapes) {
		line = "+"
	}
	p.lines, p.deep, p.left = append(p.lines, line), append(p.deep, deep), append(p.left, next)
}

// makes is a new object, which costs nothing.
func (p *plot) makes(s api.Shape) api.Value {
	p.rooms = append(p.rooms, room{len(p.lines), copied(p.now())})
	p.left[len(p.left)-1] = append(p.now(), s)
	return ref(len(p.now()))
}

// written is what the diary has of some of the steps.
func written(lines []string) []string {
	return slices.DeleteFunc(slices.Clone(lines), func(s string) bool { return s == "+" })
}

// ending is how an act must end: having written down these lines, spent so much, left all so, and come to that.
type ending struct {
	lines  []string
	spent  int
	left   []api.Shape
	answer any
	wrong  error
}

// comes plays the act on a stage, and holds it against what it must come to.
func (p *plot) comes(t *testing.T, x act, s stage, meet func(n int, line string) error, e ending) {
	t.Helper()
	h, d := p.cast.staged(t, s)
	d.meet = meet
	answer, err := x.played(h)
	want := ""
	if e.wrong == nil && x.name != "DefineProperties" {
		want = fmt.Sprint(e.answer)
	}
	if answer != want || !sameError(err, e.wrong) || !slices.Equal(d.lines, e.lines) || s.fuel-h.Fuel() != e.spent {
		t.Fatalf("%v on %v: %s, %v, %q, %d spent; want %s, %v, %q, %d", x, s, answer, err, d.lines, s.fuel-h.Fuel(), want, e.wrong, e.lines, e.spent)
	}
	if l := h.Shapes(); !sameShapes(l, e.left) {
		t.Fatalf("%v on %v, behind %q: %v; want %v", x, s, d.lines, l, e.left)
	}
}

// holds plays the act in all ways: with more fuel than it needs, with less, with less depth and room, and with each step ending otherwise, by some of the errors that there may be.
func (p *plot) holds(t *testing.T, x act, errors []error) {
	t.Helper()
	all, deepest := len(p.lines), slices.Max(append(p.deep, 1))
	whole := stage{all, deepest, len(p.rooms)}
	for more := range 2 {
		p.comes(t, x, stage{all + more, deepest + more, len(p.rooms) + more}, nil, ending{written(p.lines), all, p.now(), p.want, p.wrong})
	}
	for n := range all {
		p.comes(t, x, stage{n, deepest, len(p.rooms)}, nil, ending{written(p.lines[:n]), n, p.left[n], nil, api.ErrFuel})
		if p.lines[n] == "+" {
			continue
		}
		for _, err := range errors {
			at := len(written(p.lines[:n]))
			meet := func(i int, _ string) error {
				if i == at {
					return err
				}
				return nil
			}
			p.comes(t, x, whole, meet, ending{written(p.lines[:n+1]), n + 1, p.left[n], nil, err})
		}
	}
	for depth := 1; depth < deepest; depth++ {
		n := slices.IndexFunc(p.deep, func(d int) bool { return d > depth })
		p.comes(t, x, stage{all, depth, len(p.rooms)}, nil, ending{written(p.lines[:n]), n + 1, p.left[n], nil, api.ErrDepth})
	}
	for n, r := range p.rooms {
		p.comes(t, x, stage{all, deepest, n}, nil, ending{written(p.lines[:r.steps]), r.steps, r.left, nil, api.ErrFull})
	}
}
