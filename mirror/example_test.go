package mirror_test

// The chapter's examples.

import (
	"fmt"
	"testing"

	"cameo/api"
	"cameo/array"
	"cameo/call"
	"cameo/heap"
)

// spoken is a heap whose object 1 has b 1, 2 3, @20 4, and c, which is not enumerable.
func spoken(t *testing.T, capacity int) *heap.Heap {
	t.Helper()
	h := newHeap(t, capacity, 1000, 9)
	object(t, h, null(), has("b", num(1)), has("2", num(3)), marked(20, data(num(4), "wec")), is("c", data(num(5), "wc")))
	return h
}

func TestExample1(t *testing.T) {
	h := spoken(t, 20)
	o := ref(1)
	ask("Keys", o).adds(t, h, 4, ref(2), nil, listed(text("2"), text("b")))
	ask("Values", o).adds(t, h, 6, ref(3), nil, listed(num(3), num(1)))
	ask("Entries", o).adds(t, h, 6, ref(6), nil, listed(text("2"), num(3)), listed(text("b"), num(1)), listed(ref(4), ref(5)))
	ask("Names", o).adds(t, h, 1, ref(7), nil, listed(text("2"), text("b"), text("c")))
	ask("Symbols", o).adds(t, h, 1, ref(8), nil, listed(symbol(20)))
	ask("OwnKeys", o).adds(t, h, 1, ref(9), nil, listed(text("2"), text("b"), text("c"), symbol(20)))
}

func TestExample2(t *testing.T) {
	h := newHeap(t, 20, 1000, 9)
	object(t, h, null())
	ask("Keys", text("ab")).adds(t, h, 4, ref(3), nil, wrapped(2), listed(text("0"), text("1")))
	ask("Keys", num(5)).adds(t, h, 1, ref(5), nil, bare(), listed())
	ask("Keys", null()).stays(t, h, 0, nil, typeError())
	// The keys; of a unit GetOwnProperty, Get and Set, with what Set enters; of length GetOwnProperty.
	ask("Assign", ref(1), text("ab")).is(t, h, 1+2*(2+3)+1, ref(1), nil)
	looks(t, h, 1, bare(has("0", text("a")), has("1", text("b"))))
}

func TestExample3(t *testing.T) {
	h := newHeap(t, 20, 1000, 9)
	object(t, h, null())
	ask("Get", num(5), text("a"), num(5)).stays(t, h, 0, nil, typeError())
	ask("Descriptor", ref(1), text("a")).stays(t, h, 1, undefined(), nil)
	var given []api.Value
	f := addNative(t, h, func(this api.Value, l []api.Value) (api.Value, error) {
		given = append([]api.Value{this}, l...)
		return num(float64(len(l))), nil
	})
	l := object(t, h, null(), has("length", num(2)), has("0", text("x")), has("1", text("y")))
	ask("Apply", ref(f), null(), ref(l)).stays(t, h, 3+1, num(2), nil)
	if !sameValues(given, []api.Value{null(), text("x"), text("y")}) {
		t.Errorf("22.4: f was given %v", given)
	}
}

func TestExample4(t *testing.T) {
	h := newHeap(t, 20, 1000, 9)
	n, err := array.New(h, null(), 3)
	a := made(t, n, err)
	p := proxied(t, h, a, object(t, h, null()))
	n, err = call.New(h, null(), nil, false)
	f := made(t, n, err)
	ask("Tag", ref(a)).stays(t, h, 1, "[object Array]", nil)
	ask("Tag", ref(p)).stays(t, h, 3, "[object Array]", nil)
	ask("Tag", ref(f)).stays(t, h, 1, "[object Function]", nil)
	ask("Tag", null()).stays(t, h, 0, "[object Null]", nil)
	lay(t, h, a, marked(api.SymToStringTag, data(text("x"), "")))
	ask("Tag", ref(a)).stays(t, h, 1, "[object x]", nil)
	ask("Tag", ref(p)).stays(t, h, 3, "[object x]", nil)
}

func TestExample5(t *testing.T) {
	h := newHeap(t, 20, 1000, 9)
	d := object(t, h, null(), has("value", num(1)))
	props := object(t, h, null(), has("x", ref(d)))
	// The keys, GetOwnProperty and Get; six fields, of which one is there; DefineOwnProperty.
	ask("Create", null(), ref(props)).adds(t, h, 1+2+7+1, ref(3), nil, bare(is("x", data(num(1), ""))))
	o := fixed(t, h, null())
	ask("DefineProperties", ref(o), ref(props)).stays(t, h, 11, nil, typeError())
	if s := shapeOf(t, h, 3); fmt.Sprint(s.Props) == "[]" {
		t.Errorf("22.5: %v", s)
	}
}
