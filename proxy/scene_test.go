package proxy_test

// A scene is an act among objects that write down what is entered: it is played whole, with less fuel, with less room, and with each of its steps ending otherwise.

import (
	"fmt"
	"slices"
	"strings"
	"testing"

	"cameo/api"
	"cameo/heap"
	"cameo/proxy"
)

// diary is what was entered, in order: seers write down each of their methods.
type diary struct {
	names map[int]string // of objects, for the reader's sake
	lines []string
	fuel  int                            // what was left when the last line was written
	meet  func(n int, line string) error // what happens at the line with that number, ahead of anything else
}

func (d *diary) write(h *heap.Heap, words ...string) error {
	d.fuel = h.Fuel()
	d.lines = append(d.lines, strings.Join(words, " "))
	if d.meet == nil {
		return nil
	}
	return d.meet(len(d.lines)-1, d.lines[len(d.lines)-1])
}

// tell is a value as a word: an object by its name, if it has one.
func (d *diary) tell(v api.Value) string {
	if s, ok := d.names[v.Id]; ok && v.Kind == api.KRef {
		return s
	}
	return tell(v)
}

func (d *diary) tellAll(l []api.Value) []string {
	var words []string
	for _, v := range l {
		words = append(words, d.tell(v))
	}
	return words
}

// tellDesc is the fields of a descriptor that are there.
func (d *diary) tellDesc(x api.Desc) string {
	var words []string
	for i, v := range []api.Value{x.Value, x.Get, x.Set} {
		if v.Kind != api.KNone {
			words = append(words, []string{"value=", "get=", "set="}[i]+d.tell(v))
		}
	}
	for i, f := range []api.Tri{x.Writable, x.Enumerable, x.Configurable} {
		if f != api.Absent {
			words = append(words, []string{"w", "e", "c"}[i]+[]string{"-", "+"}[f-1])
		}
	}
	return strings.Join(words, ",")
}

// part is what a seer has: a diary, and how it ends when it is called, or constructed.
type part struct {
	*diary
	answer api.Value
	err    error
	do     func() // what else it does then
}

// seer is the methods of an ordinary object that writes down who asks it.
type seer struct{ heap.Ordinary }

func partOf(h *heap.Heap, o int) part { return h.Own(o).(part) }

// note writes down a method of an object, with its arguments.
func note(h *heap.Heap, o int, method string, words ...string) error {
	p := partOf(h, o)
	return p.write(h, append([]string{method, p.tell(ref(o))}, words...)...)
}

func (m seer) GetPrototypeOf(h *heap.Heap, o int) (api.Value, error) {
	if err := note(h, o, "proto"); err != nil {
		return api.Value{}, err
	}
	return m.Ordinary.GetPrototypeOf(h, o)
}

func (m seer) SetPrototypeOf(h *heap.Heap, o int, v api.Value) (bool, error) {
	if err := note(h, o, "reproto", partOf(h, o).tell(v)); err != nil {
		return false, err
	}
	return m.Ordinary.SetPrototypeOf(h, o, v)
}

func (m seer) IsExtensible(h *heap.Heap, o int) (bool, error) {
	if err := note(h, o, "ext"); err != nil {
		return false, err
	}
	return m.Ordinary.IsExtensible(h, o)
}

func (m seer) PreventExtensions(h *heap.Heap, o int) (bool, error) {
	if err := note(h, o, "prevent"); err != nil {
		return false, err
	}
	return m.Ordinary.PreventExtensions(h, o)
}

// GetOwnProperty is asked by ordinary methods, too, without being entered: nothing has been spent then since that was written down.
func (m seer) GetOwnProperty(h *heap.Heap, o int, k api.Key) (api.Desc, bool, error) {
	if h.Fuel() != partOf(h, o).fuel {
		if err := note(h, o, "own", nameOf(k)); err != nil {
			return api.Desc{}, false, err
		}
	}
	return m.Ordinary.GetOwnProperty(h, o, k)
}

func (m seer) DefineOwnProperty(h *heap.Heap, o int, k api.Key, d api.Desc) (bool, error) {
	if err := note(h, o, "define", nameOf(k), partOf(h, o).tellDesc(d)); err != nil {
		return false, err
	}
	return m.Ordinary.DefineOwnProperty(h, o, k, d)
}

func (m seer) HasProperty(h *heap.Heap, o int, k api.Key) (bool, error) {
	if err := note(h, o, "has", nameOf(k)); err != nil {
		return false, err
	}
	return m.Ordinary.HasProperty(h, o, k)
}

func (m seer) Get(h *heap.Heap, o int, k api.Key, receiver api.Value) (api.Value, error) {
	if err := note(h, o, "get", nameOf(k), partOf(h, o).tell(receiver)); err != nil {
		return api.Value{}, err
	}
	return m.Ordinary.Get(h, o, k, receiver)
}

func (m seer) Set(h *heap.Heap, o int, k api.Key, v, receiver api.Value) (bool, error) {
	if err := note(h, o, "set", nameOf(k), partOf(h, o).tell(v), partOf(h, o).tell(receiver)); err != nil {
		return false, err
	}
	return m.Ordinary.Set(h, o, k, v, receiver)
}

func (m seer) Delete(h *heap.Heap, o int, k api.Key) (bool, error) {
	if err := note(h, o, "delete", nameOf(k)); err != nil {
		return false, err
	}
	return m.Ordinary.Delete(h, o, k)
}

func (m seer) OwnPropertyKeys(h *heap.Heap, o int) ([]api.Key, error) {
	if err := note(h, o, "keys"); err != nil {
		return nil, err
	}
	return m.Ordinary.OwnPropertyKeys(h, o)
}

// caller is a seer that can be called, builder one that can be constructed, too.
type caller struct{ seer }

func (caller) Call(h *heap.Heap, f int, this api.Value, args []api.Value) (api.Value, error) {
	p := partOf(h, f)
	if err := note(h, f, "call", append([]string{p.tell(this)}, p.tellAll(args)...)...); err != nil {
		return api.Value{}, err
	}
	if p.do != nil {
		p.do()
	}
	return p.answer, p.err
}

type builder struct{ caller }

func (builder) Construct(h *heap.Heap, f int, args []api.Value, target int) (int, error) {
	p := partOf(h, f)
	if err := note(h, f, "construct", append([]string{p.tell(ref(target))}, p.tellAll(args)...)...); err != nil {
		return 0, err
	}
	return p.answer.Id, p.err
}

// stage is the heap of a scene, while it is being built.
type stage struct {
	t *testing.T
	h *heap.Heap
	d *diary
}

func (s stage) add(name string, class int, proto api.Value, m heap.Methods, p part, props []api.Prop) int {
	s.t.Helper()
	p.diary = s.d
	n, err := s.h.Add(class, proto, m, p)
	made(s.t, n, err)
	s.d.names[n] = name
	lay(s.t, s.h, n, props...)
	return n
}

// seer is a new object that writes down what is entered, with some properties.
func (s stage) seer(name string, proto api.Value, props ...api.Prop) int {
	s.t.Helper()
	return s.add(name, api.COrdinary, proto, seer{}, part{}, props)
}

// fixed is one that is not extensible.
func (s stage) fixed(name string, proto api.Value, props ...api.Prop) int {
	s.t.Helper()
	o := s.seer(name, proto, props...)
	fix(s.h, o)
	return o
}

// caller is one that can be called, and answers a value; ending one that ends by an error, doing one that does something first.
func (s stage) caller(name string, answer api.Value, props ...api.Prop) int {
	s.t.Helper()
	return s.add(name, api.CNative, null(), caller{}, part{answer: answer}, props)
}

func (s stage) ending(name string, err error) int {
	s.t.Helper()
	return s.add(name, api.CNative, null(), caller{}, part{err: err}, nil)
}

func (s stage) doing(name string, answer api.Value, do func()) int {
	s.t.Helper()
	return s.add(name, api.CNative, null(), caller{}, part{answer: answer, do: do}, nil)
}

// builder is one that can be constructed, too.
func (s stage) builder(name string, answer api.Value, props ...api.Prop) int {
	s.t.Helper()
	return s.add(name, api.CNative, null(), builder{}, part{answer: answer}, props)
}

// proxy is a proxy, by its name, of a target with a handler.
func (s stage) proxy(name string, target, handler int) int {
	s.t.Helper()
	n := of(s.t, s.h, target, handler)
	s.d.names[n] = name
	return n
}

// trapped is a proxy P of a target with a handler H, which has one trap f that answers a value.
func (s stage) trapped(target int, trap string, answer api.Value) int {
	s.t.Helper()
	return s.proxy("P", target, s.seer("H", null(), has(trap, ref(s.caller("f", answer)))))
}

// silent is a step that costs a unit, and writes no line: a method of a proxy is entered, or of another object that is no seer.
const silent = "-"

// scene builds a heap, whose act must take these steps, and come to that.
type scene struct {
	name  string
	build func(s stage) act
	steps []string
	want  any
	wrong error
	makes int                                     // objects that are made on the way
	left  func(t *testing.T, h *heap.Heap, n int) // looks at what is there once the steps up to n were taken, and n has ended otherwise, or all were taken
}

// loud is the steps that write a line.
func loud(steps []string) []string {
	return slices.DeleteFunc(slices.Clone(steps), func(s string) bool { return s == silent })
}

// staged is the heap of the scene, and its act. There is room for as much as it makes.
func (x scene) staged(t *testing.T) (*heap.Heap, *diary, act) {
	t.Helper()
	h, d := newHeap(t, 60, 0, 20), &diary{names: map[int]string{}}
	built := x.build(stage{t, h, d})
	for h.Len() < 60-x.makes {
		ordinary(t, h, null())
	}
	d.lines = nil
	return h, d, built
}

// comes plays the scene, and holds it against what it must come to, having taken so many steps.
func (x scene) comes(t *testing.T, fuel, steps int, meet func(n int, line string) error, want string, wrong error) {
	t.Helper()
	h, d, a := x.staged(t)
	h.Refuel(fuel)
	d.fuel, d.meet = fuel, meet
	answer, err := a.played(h)
	taken := x.steps[:steps]
	if answer != want || !sameError(err, wrong) || !slices.Equal(d.lines, loud(taken)) || fuel-h.Fuel() != steps {
		t.Errorf("%s, with fuel %d: %s, %v, %q, %d spent; want %s, %v, %q, %d", x.name, fuel, answer, err, d.lines, fuel-h.Fuel(), want, wrong, taken, steps)
	}
	if wrong == x.wrong && steps == len(x.steps) && meet == nil && h.Len() != 60 {
		t.Errorf("%s: %d objects were made, not %d", x.name, h.Len()-60+x.makes, x.makes)
	}
	if meet != nil {
		steps--
	}
	if x.left != nil {
		x.left(t, h, steps)
	}
}

// holds plays the scene in all ways.
func (x scene) holds(t *testing.T) {
	t.Helper()
	want := fmt.Sprint(x.want)
	if x.wrong != nil {
		want = ""
	}
	for more := range 3 {
		x.comes(t, len(x.steps)+more, len(x.steps), nil, want, x.wrong)
	}
	for n, step := range x.steps {
		x.comes(t, n, n, nil, "", api.ErrFuel)
		if step == silent {
			continue
		}
		line := len(loud(x.steps[:n]))
		for _, err := range ends() {
			meet := func(at int, _ string) error {
				if at == line {
					return err
				}
				return nil
			}
			x.comes(t, 100, n+1, meet, "", err)
		}
	}
}

// whole plays each of them once, where others of their sort are played in all ways.
func whole(t *testing.T, l []scene) {
	t.Helper()
	for _, x := range l {
		want := fmt.Sprint(x.want)
		if x.wrong != nil {
			want = ""
		}
		x.comes(t, len(x.steps), len(x.steps), nil, want, x.wrong)
	}
}

// scenes plays all of them.
func scenes(t *testing.T, l []scene) {
	t.Helper()
	for _, x := range l {
		t.Run(x.name, func(t *testing.T) { x.holds(t) })
	}
}

// revoke revokes a proxy whose number is told once it is there.
func (s stage) revoke(p *int) func() {
	return func() {
		if e := proxy.Revoke(s.h, *p); e != api.OK {
			s.t.Errorf("%d", e)
		}
	}
}
