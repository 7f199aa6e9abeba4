package iterate_test

// A scene is an act among objects that write down what is entered: it is played whole, with less fuel, depth and room, and with each of its steps ending otherwise.

import (
	"fmt"
	"slices"
	"strings"
	"testing"

	"cameo/api"
	"cameo/heap"
	"cameo/iterate"
)

// diary is what was entered, in order: seers write down each of their methods.
type diary struct {
	lines []string
	fuel  int                            // what was left behind the last line
	meet  func(n int, line string) error // what happens at the line with that number, ahead of anything else
}

// seer is the methods of an ordinary object that writes down who asks it: its number, the method, and what it is given.
type seer struct{ heap.Ordinary }

// player is those of one that can be called, too: it answers one value behind the other.
type player struct{ seer }

// role is what a player has: the diary of all, its answers, of which the last one is given again and again, and how many it has given.
type role struct {
	*diary
	answers []api.Value
	given   int
}

func diaryOf(h *heap.Heap, o int) *diary {
	if r, ok := h.Own(o).(*role); ok {
		return r.diary
	}
	return h.Own(o).(*diary)
}

// note writes a line, unless the method was not entered: it is called within another one then, for nothing.
func note(h *heap.Heap, o int, words ...string) error {
	d := diaryOf(h, o)
	if len(d.lines) > 0 && h.Fuel() == d.fuel {
		return nil
	}
	line := strings.Join(append([]string{fmt.Sprint(o)}, words...), " ")
	d.lines, d.fuel = append(d.lines, line), h.Fuel()
	if d.meet == nil {
		return nil
	}
	return d.meet(len(d.lines)-1, line)
}

func (m seer) GetPrototypeOf(h *heap.Heap, o int) (api.Value, error) {
	if err := note(h, o, "proto"); err != nil {
		return api.Value{}, err
	}
	return m.Ordinary.GetPrototypeOf(h, o)
}

func (m seer) SetPrototypeOf(h *heap.Heap, o int, v api.Value) (bool, error) {
	if err := note(h, o, "reproto", fmt.Sprint(v)); err != nil {
		return false, err
	}
	return m.Ordinary.SetPrototypeOf(h, o, v)
}

func (m seer) IsExtensible(h *heap.Heap, o int) (bool, error) {
	if err := note(h, o, "ext"); err != nil {
		return false, err
	}
	return m.Ordinary.IsExtensible(h, o)
}

func (m seer) PreventExtensions(h *heap.Heap, o int) (bool, error) {
	if err := note(h, o, "prevent"); err != nil {
		return false, err
	}
	return m.Ordinary.PreventExtensions(h, o)
}

func (m seer) GetOwnProperty(h *heap.Heap, o int, k api.Key) (api.Desc, bool, error) {
	if err := note(h, o, "own", nameOf(k)); err != nil {
		return api.Desc{}, false, err
	}
	return m.Ordinary.GetOwnProperty(h, o, k)
}

func (m seer) DefineOwnProperty(h *heap.Heap, o int, k api.Key, d api.Desc) (bool, error) {
	if err := note(h, o, "define", nameOf(k), tellDesc(d)); err != nil {
		return false, err
	}
	return m.Ordinary.DefineOwnProperty(h, o, k, d)
}

func (m seer) HasProperty(h *heap.Heap, o int, k api.Key) (bool, error) {
	if err := note(h, o, "has", nameOf(k)); err != nil {
		return false, err
	}
	return m.Ordinary.HasProperty(h, o, k)
}

func (m seer) Get(h *heap.Heap, o int, k api.Key, receiver api.Value) (api.Value, error) {
	if err := note(h, o, "get", nameOf(k), fmt.Sprint(receiver)); err != nil {
		return api.Value{}, err
	}
	return m.Ordinary.Get(h, o, k, receiver)
}

func (m seer) Set(h *heap.Heap, o int, k api.Key, v, receiver api.Value) (bool, error) {
	if err := note(h, o, "set", nameOf(k), fmt.Sprint(v, receiver)); err != nil {
		return false, err
	}
	return m.Ordinary.Set(h, o, k, v, receiver)
}

func (m seer) Delete(h *heap.Heap, o int, k api.Key) (bool, error) {
	if err := note(h, o, "delete", nameOf(k)); err != nil {
		return false, err
	}
	return m.Ordinary.Delete(h, o, k)
}

func (m seer) OwnPropertyKeys(h *heap.Heap, o int) ([]api.Key, error) {
	if err := note(h, o, "keys"); err != nil {
		return nil, err
	}
	return m.Ordinary.OwnPropertyKeys(h, o)
}

func (m player) Call(h *heap.Heap, f int, this api.Value, l []api.Value) (api.Value, error) {
	if err := note(h, f, "call", fmt.Sprint(this, l)); err != nil {
		return api.Value{}, err
	}
	r := h.Own(f).(*role)
	r.given++
	return r.answers[min(r.given, len(r.answers))-1], nil
}

// nameOf is a key as a word.
func nameOf(k api.Key) string {
	if k.Sym != 0 {
		return fmt.Sprintf("@%d", k.Sym)
	}
	return fmt.Sprintf("%q", k.Str)
}

// tellDesc is the fields of a descriptor that are there.
func tellDesc(d api.Desc) string {
	s := ""
	for i, v := range []api.Value{d.Value, d.Get, d.Set} {
		if v.Kind != api.KNone {
			s += []string{"value", "get", "set"}[i] + fmt.Sprint(v)
		}
	}
	for i, f := range []api.Tri{d.Writable, d.Enumerable, d.Configurable} {
		if f != api.Absent {
			s += "wec"[i:i+1] + "-+"[f-1:f]
		}
	}
	return s
}

// part is what a function of the package does: it makes iterators of a kind, with a prototype, or, without a kind, it asks them.
type part struct {
	kind int
	its  api.Value
}

// cast is objects by their numbers, as they must lie in a heap: shapes of ordinary objects, and of functions, which have answers, or do what the package's do.
type cast struct {
	shapes  []api.Shape
	answers map[int][]api.Value
	parts   map[int]part
}

// stage is what there is of fuel, depth and room for new objects.
type stage struct{ fuel, depth, room int }

// add is an object of a cast, which has no properties yet.
func (c cast) add(h *heap.Heap, d *diary, o int) (int, error) {
	p, ours := c.parts[o]
	switch {
	case ours && p.kind > 0:
		return iterate.Maker(h, null(), p.kind, p.its)
	case ours:
		return iterate.Next(h, null())
	case c.shapes[o-1].Class == api.CNative:
		return h.Add(api.CNative, null(), player{}, &role{diary: d, answers: c.answers[o]})
	}
	return h.Add(api.COrdinary, null(), seer{}, d)
}

// staged is a heap of seers that lie there so, and their diary.
func (c cast) staged(t *testing.T, s stage) (*heap.Heap, *diary) {
	t.Helper()
	h, d := newHeap(t, len(c.shapes)+s.room, s.fuel, s.depth), &diary{}
	for i := range c.shapes {
		n, err := c.add(h, d, i+1)
		made(t, n, err)
	}
	for i, x := range c.shapes {
		lay(t, h, i+1, x.Props...)
		if ok, err := (heap.Ordinary{}).SetPrototypeOf(h, i+1, x.Proto); !ok || err != nil {
			t.Fatalf("%d: %v, %v", i+1, ok, err)
		}
		if !x.Extensible {
			fix(h, i+1)
		}
	}
	return h, d
}

// turn is a line at which something else happens: an error comes, ahead of anything being done.
type turn struct {
	line int
	err  error
}

func (n turn) meet(line int, _ string) error {
	if line == n.line {
		return n.err
	}
	return nil
}

// never is no turn.
func never() turn { return turn{line: -1} }

// comes plays acts on a stage, one behind the other, and holds them against what their plot says.
func comes(t *testing.T, c cast, l []act, s stage, n turn) *plot {
	t.Helper()
	p := newPlot(c, s, n)
	h, d := c.staged(t, s)
	d.meet = n.meet
	for _, x := range l {
		want, wrong := p.played(x)
		answer, err := x.played(h)
		if x.name == "Refuel" {
			d.fuel = -1 // so that no line seems to have been written with as much
		}
		if answer != want || !sameError(err, wrong) || !slices.Equal(d.lines, p.lines) || h.Fuel() != p.fuel {
			t.Fatalf("%v on %v, %v: %s, %v, %q, %d left; want %s, %v, %q, %d", x, s, n, answer, err, d.lines, h.Fuel(), want, wrong, p.lines, p.fuel)
		}
		if l := h.Shapes(); !sameShapes(l, p.shapes) {
			t.Fatalf("%v on %v, behind %q: %v; want %v", x, s, d.lines, l, p.shapes)
		}
	}
	return p
}

// holds plays acts in all ways: with as much as they need, with more, with less fuel, depth and room, and with each step ending otherwise, by some of the errors that there may be. What never ends is played as long as there is fuel.
func holds(t *testing.T, c cast, errors []error, l ...act) *plot {
	t.Helper()
	const much = 120
	whole := comes(t, c, l, stage{much, 200, 200}, never())
	for more := range 2 {
		comes(t, c, l, stage{whole.spent + more, max(whole.deepest, 1) + more, whole.made + more}, never())
	}
	for n := range whole.spent {
		comes(t, c, l, stage{n, 200, 200}, never())
	}
	for n := 1; n < whole.deepest; n++ {
		comes(t, c, l, stage{much, n, 200}, never())
	}
	for n := range whole.made {
		comes(t, c, l, stage{much, 200, n}, never())
	}
	for n := range whole.lines {
		for _, err := range errors {
			comes(t, c, l, stage{much, 200, 200}, turn{n, err})
		}
	}
	return whole
}
