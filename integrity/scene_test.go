package integrity_test

// A scene is an act among objects that write down what is entered: it is played whole, with less fuel, and with each of its steps ending otherwise.

import (
	"fmt"
	"slices"
	"strings"
	"testing"

	"cameo/api"
	"cameo/heap"
)

// diary is what was entered, in order: seers write down each of their methods.
type diary struct {
	lines []string
	meet  func(n int, line string) error // what happens at the line with that number, ahead of anything else
}

// seer is the methods of an ordinary object that writes down who asks it: its number, the method, and what it is given.
type seer struct{ heap.Ordinary }

func note(h *heap.Heap, o int, words ...string) error {
	d := h.Own(o).(*diary)
	line := strings.Join(append([]string{fmt.Sprint(o)}, words...), " ")
	d.lines = append(d.lines, line)
	if d.meet == nil {
		return nil
	}
	return d.meet(len(d.lines)-1, line)
}

func (m seer) GetPrototypeOf(h *heap.Heap, o int) (api.Value, error) {
	if err := note(h, o, "proto"); err != nil {
		return api.Value{}, err
	}
	return m.Ordinary.GetPrototypeOf(h, o)
}

func (m seer) SetPrototypeOf(h *heap.Heap, o int, v api.Value) (bool, error) {
	if err := note(h, o, "reproto"); err != nil {
		return false, err
	}
	return m.Ordinary.SetPrototypeOf(h, o, v)
}

func (m seer) IsExtensible(h *heap.Heap, o int) (bool, error) {
	if err := note(h, o, "ext"); err != nil {
		return false, err
	}
	return m.Ordinary.IsExtensible(h, o)
}

func (m seer) PreventExtensions(h *heap.Heap, o int) (bool, error) {
	if err := note(h, o, "prevent"); err != nil {
		return false, err
	}
	return m.Ordinary.PreventExtensions(h, o)
}

func (m seer) GetOwnProperty(h *heap.Heap, o int, k api.Key) (api.Desc, bool, error) {
	if err := note(h, o, "own", nameOf(k)); err != nil {
		return api.Desc{}, false, err
	}
	return m.Ordinary.GetOwnProperty(h, o, k)
}

func (m seer) DefineOwnProperty(h *heap.Heap, o int, k api.Key, d api.Desc) (bool, error) {
	if err := note(h, o, "define", nameOf(k), tellDesc(d)); err != nil {
		return false, err
	}
	return m.Ordinary.DefineOwnProperty(h, o, k, d)
}

func (m seer) HasProperty(h *heap.Heap, o int, k api.Key) (bool, error) {
	if err := note(h, o, "has", nameOf(k)); err != nil {
		return false, err
	}
	return m.Ordinary.HasProperty(h, o, k)
}

func (m seer) Get(h *heap.Heap, o int, k api.Key, receiver api.Value) (api.Value, error) {
	if err := note(h, o, "get", nameOf(k)); err != nil {
		return api.Value{}, err
	}
	return m.Ordinary.Get(h, o, k, receiver)
}

func (m seer) Set(h *heap.Heap, o int, k api.Key, v, receiver api.Value) (bool, error) {
	if err := note(h, o, "set", nameOf(k)); err != nil {
		return false, err
	}
	return m.Ordinary.Set(h, o, k, v, receiver)
}

func (m seer) Delete(h *heap.Heap, o int, k api.Key) (bool, error) {
	if err := note(h, o, "delete", nameOf(k)); err != nil {
		return false, err
	}
	return m.Ordinary.Delete(h, o, k)
}

func (m seer) OwnPropertyKeys(h *heap.Heap, o int) ([]api.Key, error) {
	if err := note(h, o, "keys"); err != nil {
		return nil, err
	}
	return m.Ordinary.OwnPropertyKeys(h, o)
}

// nameOf is a key as a word.
func nameOf(k api.Key) string {
	if k.Sym != 0 {
		return fmt.Sprintf("@%d", k.Sym)
	}
	return fmt.Sprintf("%q", k.Str)
}

// tellDesc is the fields of a descriptor that are there.
func tellDesc(d api.Desc) string {
	s := ""
	for i, v := range []api.Value{d.Value, d.Get, d.Set} {
		if v.Kind != api.KNone {
			s += []string{"value", "get", "set"}[i] + fmt.Sprint(v)
		}
	}
	for i, f := range []api.Tri{d.Writable, d.Enumerable, d.Configurable} {
		if f != api.Absent {
			s += "wec"[i:i+1] + "-+"[f-1:f]
		}
	}
	return s
}

// cast is objects by their numbers, as they must lie in a heap: shapes of ordinary objects.
type cast []api.Shape

// copied is the same objects, of which nothing is shared.
func (c cast) copied() cast {
	l := slices.Clone(c)
	for i := range l {
		l[i].Props = slices.Clone(l[i].Props)
	}
	return l
}

// staged is a heap of seers that lie there so, and their diary.
func (c cast) staged(t *testing.T, fuel, depth int) (*heap.Heap, *diary) {
	t.Helper()
	h, d := newHeap(t, len(c), fuel, depth), &diary{}
	for range c {
		n, err := h.Add(api.COrdinary, null(), seer{}, d)
		made(t, n, err)
	}
	for i, s := range c {
		lay(t, h, i+1, s.Props...)
		if ok, err := (heap.Ordinary{}).SetPrototypeOf(h, i+1, s.Proto); !ok || err != nil {
			t.Fatalf("%d: %v, %v", i+1, ok, err)
		}
		if !s.Extensible {
			fix(h, i+1)
		}
	}
	return h, d
}

// plot is what an act must do among such objects: its steps, in order, each with how they lie behind it; and what it comes to.
type plot struct {
	lines []string
	left  []cast // ahead of any step, and behind each
	want  any
	wrong error
}

func newPlot(c cast) *plot { return &plot{left: []cast{c}} }

// now is the objects as they lie there behind the last step.
func (p *plot) now() cast { return p.left[len(p.left)-1] }

// step is one that may change an object.
func (p *plot) step(o int, line string, change func(s *api.Shape)) {
	next := p.now().copied()
	if change != nil {
		change(&next[o-1])
	}
	p.lines, p.left = append(p.lines, fmt.Sprintf("%d %s", o, line)), append(p.left, next)
}

// comes plays the act, and holds it against the first steps of the plot.
func (p *plot) comes(t *testing.T, x act, fuel, steps int, meet func(n int, line string) error, wrong error) {
	t.Helper()
	h, d := p.left[0].staged(t, fuel, 1)
	d.meet = meet
	answer, err := x.played(h)
	want := ""
	if wrong == nil {
		want = fmt.Sprint(p.want)
	}
	if answer != want || !sameError(err, wrong) || !slices.Equal(d.lines, p.lines[:steps]) || fuel-h.Fuel() != steps {
		t.Fatalf("%v, with fuel %d: %s, %v, %q, %d spent; want %s, %v, %q", x, fuel, answer, err, d.lines, fuel-h.Fuel(), want, wrong, p.lines[:steps])
	}
	done := steps
	if meet != nil {
		done-- // the last one did nothing
	}
	if l := h.Shapes(); !sameShapes(l, p.left[done]) {
		t.Fatalf("%v, behind %q: %v; want %v", x, p.lines[:done], l, p.left[done])
	}
}

// holds plays the act in all ways: with more fuel than it needs, with less, and with each step ending otherwise, by some of the errors that there may be.
func (p *plot) holds(t *testing.T, x act, errors []error) {
	t.Helper()
	for more := range 2 {
		p.comes(t, x, len(p.lines)+more, len(p.lines), nil, p.wrong)
	}
	for n := range p.lines {
		p.comes(t, x, n, n, nil, api.ErrFuel)
		for _, err := range errors {
			meet := func(at int, _ string) error {
				if at == n {
					return err
				}
				return nil
			}
			p.comes(t, x, len(p.lines)+3, n+1, meet, err)
		}
	}
}
