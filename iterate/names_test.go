package iterate_test

// 23.9: for-in over chains of objects that write down what is entered: keys of every sort, there or not, enumerable or not, and changed in the midst.

import (
	"slices"
	"testing"

	"cameo/api"
)

// The states of a property: it is not there, or it is, enumerable or not, of data or of an accessor.
func states(v api.Value) []api.Desc {
	return []api.Desc{{}, data(v, "wec"), data(v, "wc"), accessor(ref(tells), undefined(), "e"), accessor(undefined(), undefined(), "c")}
}

// heirs is a cast in which one object inherits from a second one, and that from a third one; with a getter, which is not called.
func heirs() cast {
	c := cast{answers: map[int][]api.Value{tells: {num(1)}}}
	for range 9 {
		c.shapes = append(c.shapes, bare())
	}
	c.shapes = append(c.shapes, function(), bare())
	c.shapes[0].Proto, c.shapes[1].Proto = ref(2), ref(3)
	return c
}

// lays gives an object of a cast a property, unless there is no descriptor.
func (c cast) lays(o int, k api.Key, d api.Desc) cast {
	if d != (api.Desc{}) {
		c.shapes[o-1].Props = append(c.shapes[o-1].Props, api.Prop{Key: k, Desc: d})
	}
	return c
}

// One name in all states in each of three objects, beside another one; and a symbol of such a kind, which is passed over.
func TestChains(t *testing.T) {
	t.Parallel()
	n := len(states(num(1)))
	for i := range n * n * n {
		of := []int{i % n, i / n % n, i / n / n}
		for _, k := range []api.Key{str("a"), str("7"), str(""), sym(3)} {
			c := heirs()
			for o, s := range of {
				c.lays(o+1, k, states(ref(2))[s])
				c.lays(o+1, str("b"), data(num(1), []string{"e", "", "wec"}[(i+o)%3]))
				c.lays(o+1, sym(8+o), data(num(1), "wec"))
			}
			holds(t, c, some(i, 2), ask("ForIn", ref(1)), ask("ForIn", ref(2)))
		}
	}
}

// Indices come first, as they rise, then strings, as they came; what is an index is so only if it is written as one.
func TestOrder(t *testing.T) {
	keys := []api.Key{str("b"), str("10"), str("-0"), str("9"), str("01"), sym(5), str("4294967294"), str("4294967295"), str("a"), str(high), str("1e3"), str("0"), str("length"), str("1.5")}
	for turn := range len(keys) {
		c := heirs()
		for o := 1; o <= 3; o++ {
			for i := range keys {
				k := keys[(i*(2*o+1)+turn)%len(keys)]
				if i%o == 0 && !slices.ContainsFunc(c.shapes[o-1].Props, func(p api.Prop) bool { return p.Key == k }) {
					c.lays(o, k, states(num(1))[1+(i+o+turn)%4])
				}
			}
		}
		holds(t, c, some(turn, 1), ask("ForIn", ref(1)))
	}
}

// What is changed behind each line: a name that is hidden, taken out, laid anew or made enumerable, in the object that is looked at, in one that was, or in one that will be; and prototypes.
func TestNamesChanged(t *testing.T) {
	t.Parallel()
	var l []change
	for o := 1; o <= 4; o++ {
		l = append(l, changesOf(o, []api.Value{num(1)}, str("a"), str("b"), str("0"), str("new"), sym(3))...)
	}
	l = append(l, change{o: 1, proto: null()}, change{o: 1, proto: ref(3)}, change{o: 1, proto: ref(4)}, change{o: 2, proto: ref(4)}, change{o: 2, proto: null()}, change{o: 3, proto: ref(4)})
	plays := 0
	for i := 0; i < 81; i += 2 {
		c := heirs()
		for o, s := range []int{i % 3, i / 3 % 3, i / 9 % 3, i / 27} {
			c.lays(o+1, str("a"), states(num(1))[s])
			c.lays(o+1, str([]string{"b", "0", "b", "c"}[(o+i)%4]), data(num(1), []string{"wec", "c"}[(o+i)%2]))
		}
		plays += everywhere(t, c, l, ask("ForIn", ref(1)))
	}
	if plays < 10000 {
		t.Errorf("%d plays", plays)
	}
}

// A function, an array iterator, and what makes one, are gone through as any other object.
func TestNamesOfOthers(t *testing.T) {
	for _, kind := range kinds() {
		c := cursors(kind)
		c.shapes[makesA-1].Props = []api.Prop{has("m", num(1)), is("hidden", data(num(1), ""))}
		c.shapes[asks-1].Proto = ref(asked)
		holds(t, c, ends()[:3], ask("ForIn", ref(makesA)), ask("ForIn", ref(asks)), ask("ForIn", ref(its)), ask("Call", ref(makesA), ref(asked)), ask("ForIn", ref(made1)), asksOf(ref(made1)), ask("ForIn", ref(made1+1)))
	}
}
