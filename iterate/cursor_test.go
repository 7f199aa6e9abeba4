package iterate_test

// 23.1 and 23.2 among objects that write down what is entered: makers of each kind, and array iterators of objects with a length of every sort and members in every way, that end otherwise and are asked again.

import (
	"slices"
	"strconv"
	"testing"

	"cameo/api"
)

// The objects of the casts with array iterators: what is gone through is asked, as in the other ones, and tells and other stand where they do.
const (
	its    = 2 // the iterators' prototype
	makesA = 3
	asks   = 4
	loop   = 5 // the function of a loop
	says   = 6 // a function of another object
	speaks = 7 // that object
	made1  = 12
)

// cursors is a cast with a maker of a kind, and an object of two members.
func cursors(kind int) cast {
	return cast{
		shapes: []api.Shape{
			bare(marked(api.SymIterator, data(ref(makesA), "")), has("length", num(2)), has("0", text("zero")), has("1", ref(other))),
			bare(has("next", ref(asks))), function(), function(), function(), function(),
			bare(has("valueOf", ref(says))), bare(), bare(), function(), bare(),
		},
		answers: map[int][]api.Value{loop: {undefined()}, says: {num(1)}, tells: {num(1)}},
		parts:   map[int]part{makesA: {kind, ref(its)}, asks: {}},
	}
}

func kinds() []int { return []int{api.IKeys, api.IValues, api.IEntries} }

func asksOf(v api.Value) act { return ask("Call", ref(asks), v) }

// rounds is what is done with an array iterator: it is made, and asked so many times, with fuel anew each time; then its object is gone through as a list and in a loop.
func rounds(n int) [][]act {
	one := []act{ask("Call", ref(makesA), ref(asked))}
	for range n {
		one = append(one, refuel(120), asksOf(ref(made1)))
	}
	return [][]act{one, {ask("List", ref(asked)), refuel(120), ask("List", ref(asked))}, {ask("ForOf", ref(asked), ref(loop))}, {ask("Get", ref(asked)), refuel(120), steps(made1, ref(asks)), refuel(120), steps(made1, ref(asks))}}
}

// The whole of it, as it should be, and each step ending by each error; an iterator that has ended, by what was thrown or because there was no more, is at its end; one that stopped goes on.
func TestArrayIterators(t *testing.T) {
	t.Parallel()
	for _, kind := range kinds() {
		for _, l := range rounds(5) {
			holds(t, cursors(kind), ends(), l...)
			holds(t, cursors(kind).put(asked, str("0"), getter, text("got")).put(asked, str("length"), above, num(2)), ends(), l...)
			c := cursors(kind).put(asked, str("length"), own, ref(speaks))
			holds(t, c.put(speaks, str("valueOf"), getter, ref(says)), ends(), l...)
		}
	}
}

// A maker is called with any receiver, and whatever arguments; what it makes has the prototype that the maker has, and no properties.
func TestMakers(t *testing.T) {
	t.Parallel()
	for _, kind := range kinds() {
		for _, proto := range []api.Value{null(), ref(its), ref(asked)} {
			for _, v := range append(anything(), ref(makesA), ref(asks), ref(its), symbol(asked)) {
				c := cursors(kind)
				c.parts[makesA] = part{kind, proto}
				p := holds(t, c, nil, ask("Call", ref(makesA), v), ask("Call", ref(makesA), v, ref(asked), num(1)), asksOf(ref(made1)))
				if want := map[bool]int{true: 3}[v.Kind == api.KRef]; p.made < want || want == 0 && p.made > 0 {
					t.Errorf("23.1: %v: %d made", v, p.made)
				}
			}
		}
	}
}

// What asks array iterators is called with any receiver.
func TestReceivers(t *testing.T) {
	t.Parallel()
	for _, kind := range kinds() {
		for _, v := range append(anything(), ref(makesA), ref(asks), ref(its), symbol(made1), symbol(asked)) {
			holds(t, cursors(kind), nil, asksOf(v), ask("Call", ref(makesA), ref(asked)), asksOf(v), ask("Call", ref(asks), v, ref(made1)), ask("Call", ref(asks), ref(made1), v), steps(asked, ref(asks)), steps(made1, ref(asks)))
		}
	}
	// one that asks is as good as any other one: the iterator knows how far it is
	c := cursors(api.IValues)
	c.parts[body] = part{}
	holds(t, c, nil, ask("Call", ref(makesA), ref(asked)), asksOf(ref(made1)), ask("Call", ref(body), ref(made1)), asksOf(ref(made1)))
}

// Lengths of every sort and in every way, of which some are objects that are asked.
func TestLengths(t *testing.T) {
	t.Parallel()
	lengths := append(anything(), num(1.9), num(3), text("2"), text("1.5"), text(" 2 "), text("x"), num(1<<53), ref(speaks))
	for turn, kind := range kinds() {
		for i, v := range lengths {
			for way := range allWays {
				l := rounds(3)[(i+turn+way)%4]
				holds(t, cursors(kind).put(asked, str("length"), way, v), some(i, 1), l...)
			}
			if i%3 != turn {
				continue
			}
			for _, l := range rounds(2) { // an object that answers that, by valueOf and by toString
				c := cursors(kind).put(asked, str("length"), own, ref(speaks)).put(speaks, []api.Key{str("valueOf"), str("toString"), sym(api.SymToPrimitive)}[i%3], own, ref(says))
				c.answers[says] = []api.Value{v, num(1)}
				holds(t, c, some(i, 1), l...)
			}
		}
	}
}

// Members of every sort and in every way, of which some are not there.
func TestMembers(t *testing.T) {
	t.Parallel()
	for turn, kind := range kinds() {
		for i, v := range anything() {
			for way := range allWays {
				for at := range 2 {
					if (i+way+at)%3 != turn {
						continue
					}
					l := rounds(3)[(i+at)%4]
					holds(t, cursors(kind).put(asked, str(strconv.Itoa(at)), way, v), some(i, 1), l...)
				}
			}
		}
	}
}

// A length that is another one each time that it is asked: it grows and shrinks between two steps, and an iterator that has been at its end stays there.
func TestChangingLengths(t *testing.T) {
	t.Parallel()
	for turn, kind := range kinds() {
		for i := turn; i < 4*4*4*4; i += 3 {
			c := cursors(kind).put(asked, str("length"), getter, num(0))
			c.answers[tells] = []api.Value{num(float64(i % 4)), num(float64(i / 4 % 4)), num(float64(i / 16 % 4)), num(float64(i / 64)), num(3)}
			for _, l := range [][]act{rounds(6)[0], rounds(0)[1]} {
				holds(t, c, some(i, 1), l...)
			}
		}
	}
}

// A loop over an array iterator, whose prototype has a return or none: every road out of it.
func TestLoopsOverArrays(t *testing.T) {
	t.Parallel()
	for _, kind := range kinds() {
		for i, v := range anything() {
			for way := range allWays {
				c := cursors(kind).put(its, str("return"), way, v)
				c.answers[loop] = []api.Value{yes(), no()}
				holds(t, c, some(i, 2), ask("ForOf", ref(asked), ref(loop)))
			}
			c := cursors(kind).put(its, str("return"), own, ref(says))
			c.answers[loop], c.answers[says] = []api.Value{v}, []api.Value{ref(other)}
			holds(t, c, some(i, 1), ask("ForOf", ref(asked), ref(loop)))
		}
	}
}

// Two iterators of one object, and one of another one, know nothing of each other.
func TestIteratorsAreApart(t *testing.T) {
	t.Parallel()
	for _, kind := range kinds() {
		l := []act{ask("Call", ref(makesA), ref(asked)), ask("Call", ref(makesA), ref(asked)), ask("Call", ref(makesA), ref(speaks))}
		for i := range 3 * 3 * 3 * 3 {
			order := slices.Clone(l)
			for _, n := range []int{i % 3, i / 3 % 3, i / 9 % 3, i / 27} {
				order = append(order, refuel(120), asksOf(ref(made1+n)))
			}
			comes(t, cursors(kind).put(speaks, str("length"), own, num(3)), order, stage{120, 9, 40}, never())
			comes(t, cursors(kind), order, stage{120, 2, 4 + i%5}, turn{i % 7, ends()[i%len(ends())]})
		}
	}
}
