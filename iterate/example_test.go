package iterate_test

// The chapter's examples.

import (
	"testing"

	"cameo/api"
	"cameo/array"
	"cameo/call"
	"cameo/heap"
	"cameo/iterate"
)

// makerOf is a maker of a kind, whose iterators' prototype has a next that asks them: the objects are that next, the prototype and the maker.
func makerOf(t *testing.T, h *heap.Heap, kind int) int {
	t.Helper()
	n, err := iterate.Next(h, null())
	next := made(t, n, err)
	n, err = iterate.Maker(h, null(), kind, ref(object(t, h, null(), has("next", ref(next)))))
	return made(t, n, err)
}

// runner is an object behind which others can be gone through: it has such a maker.
func runner(t *testing.T, h *heap.Heap, kind int) int {
	t.Helper()
	return object(t, h, null(), marked(api.SymIterator, data(ref(makerOf(t, h, kind)), "wc")))
}

// TestExample1: 1 is the function that asks, 2 the iterators' prototype, 3 the maker, 4 what has it, 5 the array.
func TestExample1(t *testing.T) {
	h := newHeap(t, 60, 2000, 9)
	n, err := array.Of(h, ref(runner(t, h, api.IValues)), []api.Value{num(5), num(7)})
	a := ref(made(t, n, err))
	its := of(api.CIterator, ref(2))
	// The method, found in the prototype; the maker; next, found in the prototype, too. Each step is the call, length, member, done and value; the last one has no member, and no value.
	ask("List", a).adds(t, h, 2+1+2+5+5+3, []api.Value{num(5), num(7)}, nil, its, result(num(5), no()), result(num(7), no()), over())
	first := h.Len() + 1
	ask("Get", a).adds(t, h, 5, api.Iterator{Object: first, Next: ref(1)}, nil, its)
	x := steps(first, ref(1))
	x.adds(t, h, 5, stepped{v: num(5)}, nil, result(num(5), no()))
	resize := func(n float64) {
		t.Helper()
		if ok, err := h.Set(a.Id, str("length"), num(n), a); !ok || err != nil {
			t.Fatal(ok, err)
		}
	}
	resize(1)
	x.adds(t, h, 3, stepped{over: true}, nil, over())
	resize(3)
	x.adds(t, h, 2, stepped{over: true}, nil, over()) // it has no object any more, whose length could be asked
}

// gives is a function that answers a value, or throws it, in a body of operations.
func gives(t *testing.T, h *heap.Heap, how int, v api.Value) int {
	t.Helper()
	n, err := call.New(h, null(), []api.Op{{Code: api.OConst, Val: v}, {Code: how}}, false)
	return made(t, n, err)
}

// unending is an object whose iterator tells 1 again and again, and has a return that ends so.
func unending(t *testing.T, h *heap.Heap, how int, v api.Value) api.Value {
	t.Helper()
	r := object(t, h, null(), has("value", num(1)))
	it := object(t, h, null(), has("next", ref(gives(t, h, api.OReturn, ref(r)))), has("return", ref(gives(t, h, how, v))))
	return ref(object(t, h, null(), marked(api.SymIterator, data(ref(gives(t, h, api.OReturn, ref(it))), ""))))
}

func TestExample2(t *testing.T) {
	h := newHeap(t, 60, 2000, 9)
	throws, ends := ref(gives(t, h, api.OThrow, num(1))), ref(gives(t, h, api.OReturn, no()))
	// The method, its call of two operations, and next; next, its two operations, done and value; the function and its two; return and its three.
	const cost = 1 + 3 + 1 + 3 + 2 + 3 + 1 + 3
	ask("ForOf", unending(t, h, api.OThrow, num(2)), throws).stays(t, h, cost, nil, thrown(num(1)))
	ask("ForOf", unending(t, h, api.OReturn, num(3)), ends).stays(t, h, cost, nil, typeError())
	ask("ForOf", unending(t, h, api.OThrow, num(2)), ends).stays(t, h, cost, nil, thrown(num(2)))
	ask("ForOf", unending(t, h, api.OReturn, throws), ends).stays(t, h, cost, 1, nil)
}

func TestExample3(t *testing.T) {
	h := newHeap(t, 9, 100, 9)
	object(t, h, null(), has("a", num(1)), has("c", num(1)))
	object(t, h, ref(1), is("a", data(num(1), "wc")), has("1", num(1)), has("b", num(1)), marked(1, data(num(1), "wec")))
	// The keys, three of them, and the prototype; the keys, of which a was met, and the prototype.
	ask("ForIn", ref(2)).stays(t, h, 1+3+1+1+1+1, []api.Key{str("1"), str("b"), str("c")}, nil)
}
