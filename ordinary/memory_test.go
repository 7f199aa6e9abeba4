package ordinary_test

// What is handed in is neither changed nor kept, and what is handed out is new memory (R4).

import (
	"slices"
	"testing"

	"cameo/api"
	"cameo/ordinary"
)

// spoil writes over a list, and over the room behind its end.
func spoil[T any](l []T, x T) {
	for i := range l[:cap(l)] {
		l[:cap(l)][i] = x
	}
}

// 9.11: the list that New was given is the caller's, the room behind its end, too.
func TestPropsAreTheCallers(t *testing.T) {
	h := newHeap(t, 2, 100, 9)
	one := api.Prop{Key: str("a"), Desc: data(text("x"), "wec")}
	room := []api.Prop{one, {Key: str("b")}, {Key: sym(1)}, one, one}
	props, copied := room[:3], slices.Clone(room)
	o, err := ordinary.New(h, null(), props)
	if err != nil || !slices.Equal(room, copied) {
		t.Errorf("9.11: %v, %v", err, room)
	}
	before := h.Shapes()
	spoil(props, api.Prop{Key: str("junk"), Desc: data(num(9), "")})
	if !sameShapes(h.Shapes(), before) {
		t.Errorf("9.11: what was handed in is kept: %v", h.Shapes())
	}
	// Nor do two objects of one list share anything.
	p, _ := ordinary.New(h, null(), copied[:3])
	before = h.Shapes()
	h.DefineOwnProperty(o, str("a"), api.Desc{Value: num(1)})
	h.Delete(o, str("a"))
	if after := h.Shapes(); !sameShape(after[p-1], before[p-1]) || sameShape(after[o-1], before[o-1]) {
		t.Errorf("9.11: %v", after)
	}
}

// 9.4, 9.10, 9.11
func TestAnswersAreTheCallers(t *testing.T) {
	h := newHeap(t, 7, 1000, 9)
	proto := null()
	for range 7 {
		o, err := ordinary.New(h, proto, []api.Prop{{Key: str("b")}, {Key: str("2")}, {Key: sym(1)}, {Key: str("a")}, {Key: str("1")}})
		if err != nil {
			t.Fatal(err)
		}
		proto = ref(o)
	}
	before := h.Shapes()
	chain, other := []int{6, 5, 4, 3, 2, 1}, []api.Key{str("1"), str("2"), str("b"), str("a"), sym(1)}
	for range 2 {
		one, _ := ordinary.Chain(h, 7)
		two, _ := ordinary.Chain(h, 7)
		spoil(one, 99)
		keys, _ := h.OwnPropertyKeys(7)
		again, _ := h.OwnPropertyKeys(7)
		spoil(keys, str("junk"))
		if !slices.Equal(two, chain) || !slices.Equal(again, other) {
			t.Errorf("two answers share memory: %v, %v", two, again)
		}
		if !sameShapes(h.Shapes(), before) {
			t.Errorf("an answer is what is kept: %v", h.Shapes())
		}
	}
}

// 9.12: shapes that are looked at stay as they are.
func TestShapesAreTheCallers(t *testing.T) {
	room := []api.Shape{shape(null(), api.Prop{Key: str("a"), Desc: data(num(1), "")}), shape(ref(3)), shape(ref(2)), shape(ref(1))}
	copied := slices.Clone(room)
	for i := range copied {
		copied[i].Props = slices.Clone(room[i].Props)
	}
	for range 2 {
		if at := ordinary.Sound(room[:3]); at != 1 || !sameShapes(room, copied) {
			t.Errorf("9.12: %d, %v", at, room)
		}
	}
}
