package iterate_test

// 23.4 to 23.8 of iterators of programs: among objects that write down what is entered, with properties of every sort, functions that answer anything, and each step ending otherwise.

import (
	"errors"
	"slices"
	"strings"
	"testing"

	"cameo/api"
)

// The objects of the casts with an iterator.
const (
	asked  = 1 // what is gone through
	begins = 2 // its function that answers the iterator
	iter   = 3
	goes   = 4 // the iterator's next
	back   = 5 // and its return
	body   = 6 // the function of a loop
	first  = 7 // what next answers; the next one, which is not done either, and the last one
	second = 8
	last   = 9
	tells  = 10 // a getter
	other  = 11
)

func function() api.Shape { return of(api.CNative, null()) }

// protocol is a cast with an iterator of two values, 5 and seven.
func protocol() cast {
	return cast{
		shapes: []api.Shape{
			bare(marked(api.SymIterator, data(ref(begins), ""))), function(),
			bare(has("next", ref(goes)), has("return", ref(back))), function(), function(), function(),
			bare(has("value", num(5)), has("done", no())), bare(has("value", text("seven"))), bare(has("value", num(9)), has("done", yes())),
			function(), bare(),
		},
		answers: map[int][]api.Value{begins: {ref(iter)}, goes: {ref(first), ref(second), ref(last)}, back: {ref(other)}, body: {undefined(), num(0)}, tells: {num(1)}},
	}
}

// put gives an object of a cast a property, in one of the ways in which it may have one.
func (c cast) put(o int, k api.Key, way int, v api.Value) cast {
	at, p := o, api.Prop{Key: k, Desc: data(v, "wec")}
	switch way {
	case getter, getterAbove:
		p.Desc = accessor(ref(tells), undefined(), "c")
		c.answers[tells] = []api.Value{v}
	case noGetter:
		p.Desc = accessor(undefined(), ref(back), "")
	}
	if way == above || way == getterAbove {
		at = other
		c.shapes[o-1].Proto = ref(other)
	}
	for _, n := range []int{o, at} {
		c.shapes[n-1].Props = slices.DeleteFunc(c.shapes[n-1].Props, func(x api.Prop) bool { return x.Key == k })
	}
	if way != absent {
		c.shapes[at-1].Props = append(c.shapes[at-1].Props, p)
	}
	return c
}

// The ways in which an object may have a property.
const (
	own = iota
	absent
	getter
	noGetter
	above
	getterAbove
	allWays
)

// anything is values of every kind, objects and functions among them.
func anything() []api.Value { return append(plain(), ref(other), ref(asked), ref(goes), ref(body)) }

// causes is what a loop may be left for.
func causes() []error {
	return append(ends(), nil, api.ErrRef, api.Errno(-1), api.Errno(999), errors.New("strange"), error(wrapped{thrown(num(1))}))
}

// wrapped is an error that holds another one.
type wrapped struct{ error }

func (w wrapped) Unwrap() error { return w.error }

// loops is all acts that go through something.
func loops() []act {
	return []act{ask("Get", ref(asked)), ask("List", ref(asked)), ask("ForOf", ref(asked), ref(body))}
}

// The whole of it, as it should be, and each step ending by each error.
func TestProtocol(t *testing.T) {
	t.Parallel()
	for _, x := range loops() {
		holds(t, protocol(), ends(), x)
	}
	holds(t, protocol(), ends(), steps(iter, ref(goes)), steps(iter, ref(goes)), steps(iter, ref(goes)), steps(iter, ref(goes)))
	p := comes(t, protocol(), []act{ask("List", ref(asked)), ask("List", ref(asked)), ask("ForOf", ref(asked), ref(body))}, stage{100, 9, 0}, never())
	if p.spent < 20 || p.made > 0 {
		t.Errorf("23.7: %+v", p)
	}
	for _, cause := range causes() {
		holds(t, protocol(), ends(), closes(iter, ref(goes), cause))
	}
}

// 23.4: the symbol's method, of every sort and in every way; what it answers; and next, whatever it is.
func TestGet(t *testing.T) {
	t.Parallel()
	for i, v := range anything() {
		for way := range allWays {
			for j, x := range loops() {
				few := some(i+j, 1)
				holds(t, protocol().put(asked, sym(api.SymIterator), way, v), few, x)
				holds(t, protocol().put(iter, str("next"), way, v), few, x)
			}
			// what stands under other keys is not looked at
			holds(t, protocol().put(asked, str("Symbol.iterator"), way, v).put(asked, sym(api.SymAsyncIterator), way, v), nil, loops()[0])
		}
		for _, x := range loops() {
			c := protocol()
			c.answers[begins] = []api.Value{v}
			holds(t, c, some(i, 1), x)
		}
	}
}

// What is asked for an iterator may be a function, and the iterator be what it is asked of, or the function itself.
func TestGetOfOthers(t *testing.T) {
	for _, o := range []int{asked, begins, iter, goes, body, other} {
		c := protocol().put(o, sym(api.SymIterator), own, ref(begins)).put(o, str("next"), own, ref(goes))
		c.answers[begins] = []api.Value{ref(o)}
		for _, x := range []act{ask("Get", ref(o)), ask("List", ref(o)), ask("ForOf", ref(o), ref(body))} {
			holds(t, c, ends()[:2], x)
		}
	}
}

// 23.5: what is no function; what a function answers that is no object; done and value, of every sort and in every way.
func TestStep(t *testing.T) {
	t.Parallel()
	for i, v := range anything() {
		few := some(i, 1)
		holds(t, protocol(), few, steps(iter, v))
		holds(t, protocol(), few, steps(asked, v), steps(other, v))
		c := protocol()
		c.answers[goes] = []api.Value{v, ref(second), v}
		holds(t, c, few, steps(iter, ref(goes)), steps(iter, ref(goes)), steps(iter, ref(goes)))
		holds(t, c, few, ask("List", ref(asked)))
		holds(t, c, few, ask("ForOf", ref(asked), ref(body)))
		for way := range allWays {
			for _, k := range []string{"done", "value"} {
				c := protocol().put(first, str(k), way, v)
				holds(t, c, few, steps(iter, ref(goes)), steps(other, ref(goes)))
				holds(t, c, few, ask("List", ref(asked)))
				holds(t, c, nil, ask("ForOf", ref(asked), ref(body)))
			}
			// of what is done the value is not asked
			holds(t, protocol().put(last, str("value"), way, v), nil, ask("List", ref(asked)))
		}
	}
}

// The next that Get found is called, whatever the iterator's property becomes; the receiver is the iterator, whoever's function it is.
func TestStepCallsWhatItIsGiven(t *testing.T) {
	for _, next := range []int{goes, begins, back, tells} {
		c := protocol()
		c.answers[tells] = []api.Value{ref(first)}
		holds(t, c.put(iter, str("next"), own, num(1)), ends()[:2], steps(iter, ref(next)), steps(next, ref(next)))
	}
}

// 23.6: the method return, of every sort and in every way, and what it answers, for each cause.
func TestClose(t *testing.T) {
	t.Parallel()
	for i, v := range anything() {
		for j, cause := range causes() {
			few := some(i+j, 1)
			for way := range allWays {
				holds(t, protocol().put(iter, str("return"), way, v), few, closes(iter, ref(goes), cause))
			}
			c := protocol()
			c.answers[back] = []api.Value{v}
			holds(t, c, few, closes(iter, ref(goes), cause), closes(iter, undefined(), cause))
		}
		holds(t, protocol(), nil, closes(iter, v, nil), closes(other, v, thrown(num(1))))
	}
}

// Every road out of a loop (23.8): what the function answers, at its first call or at its second one; what it ends by; what return is, and what that answers or ends by.
func TestRoadsOutOfALoop(t *testing.T) {
	t.Parallel()
	x := ask("ForOf", ref(asked), ref(body))
	for i, v := range anything() {
		for at := range 3 {
			c := protocol()
			c.answers[body] = slices.Repeat([]api.Value{yes()}, 3)
			c.answers[body][at] = v
			holds(t, c, some(i, 1), x)
		}
		for way := range allWays {
			for _, k := range []int{iter, back} { // return is of that sort, or answers such a thing
				c := protocol()
				c.answers[body] = []api.Value{undefined(), no()}
				if k == iter {
					c = c.put(iter, str("return"), way, v)
				} else {
					c.answers[back] = []api.Value{v}
				}
				holds(t, c, ends(), x)
			}
		}
	}
}

// Two things that go wrong: the function ends by one error, and then what closes the iterator by another one.
func TestWrongTwice(t *testing.T) {
	t.Parallel()
	x := ask("ForOf", ref(asked), ref(body))
	for _, ret := range []int{own, getter, getterAbove} {
		c := protocol().put(iter, str("return"), ret, ref(back))
		calls := 0
		for n, line := range comes(t, c, []act{x}, stage{100, 9, 9}, never()).lines {
			if !strings.HasPrefix(line, "6 call") {
				continue
			}
			calls++
			for _, one := range ends() {
				for _, two := range ends() {
					for behind := 1; behind < 6; behind++ {
						twice(t, c, x, turn{n, one}, turn{n + behind, two})
					}
				}
			}
		}
		if calls != 2 {
			t.Errorf("the function is called %d times", calls)
		}
	}
}

// twice plays an act in which two steps end otherwise.
func twice(t *testing.T, c cast, x act, one, two turn) {
	t.Helper()
	s := stage{100, 9, 9}
	p := newPlot(c, s, one)
	p.second = two
	h, d := c.staged(t, s)
	d.meet = func(n int, line string) error {
		if n == two.line {
			return two.err
		}
		return one.meet(n, line)
	}
	want, wrong := p.played(x)
	answer, err := x.played(h)
	if answer != want || !sameError(err, wrong) || !slices.Equal(d.lines, p.lines) || h.Fuel() != p.fuel {
		t.Fatalf("%v, %v, %v: %s, %v, %q; want %s, %v, %q", x, one, two, answer, err, d.lines, want, wrong, p.lines)
	}
}

// What is no object has no iterator, and nothing is asked; for-in meets nothing in it.
func TestNoObject(t *testing.T) {
	for _, v := range plain() {
		p := holds(t, protocol(), nil, ask("Get", v), ask("List", v), ask("ForOf", v, ref(body)), ask("ForIn", v))
		if p.spent > 0 {
			t.Errorf("%v: %d spent", v, p.spent)
		}
	}
}

// 23.3: values of every kind.
func TestResult(t *testing.T) {
	for _, v := range anything() {
		for done := range 2 {
			p := holds(t, protocol(), nil, results(v, done), results(v, 1-done))
			if p.spent > 0 || p.made != 2 {
				t.Errorf("23.3: %v: %d spent, %d made", v, p.spent, p.made)
			}
		}
	}
}
