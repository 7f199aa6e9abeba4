package heap_test

import (
	"math"
	"slices"
	"strings"
	"testing"

	"cameo/api"
	"cameo/heap"
)

// fresh is a heap with some objects: 1 ordinary, 2 a function, 3 a constructor, both of which answer their receiver, 4 ordinary with the prototype 1.
func fresh(t *testing.T, fuel, depth int) *heap.Heap {
	t.Helper()
	h, e := heap.New(6, fuel, depth)
	if e != api.OK {
		t.Fatal(e)
	}
	echo := func(d door, f int, this api.Value, args []api.Value) (api.Value, error) { return this, nil }
	made(t, h, null())
	addTo(h, echo, false)
	addTo(h, echo, true)
	made(t, h, ref(1))
	return h
}

func made(t *testing.T, h *heap.Heap, proto api.Value) int {
	t.Helper()
	n, err := h.Make(proto)
	if err != nil {
		t.Fatal(err)
	}
	return n
}

// define lays a property there, whatever it costs.
func define(t *testing.T, h *heap.Heap, o int, k api.Key, d api.Desc) {
	t.Helper()
	fuel := h.Fuel()
	h.Refuel(1)
	if ok, err := h.DefineOwnProperty(o, k, d); !ok || err != nil {
		t.Fatalf("%d %v %v: %v, %v", o, k, d, ok, err)
	}
	h.Refuel(fuel)
}

// 7.1: the edges of capacity, fuel and depth.
func TestNew(t *testing.T) {
	for _, c := range []struct {
		capacity, fuel, depth int
		want                  api.Errno
	}{
		{0, 0, 1, 0}, {65536, 0, 1, 0}, {1, math.MaxInt, 256, 0}, {2, 10, 5, 0},
		{-1, 0, 1, api.ErrRange}, {65537, 0, 1, api.ErrRange}, {math.MinInt, 0, 1, api.ErrRange}, {math.MaxInt, 0, 1, api.ErrRange},
		{1, -1, 1, api.ErrRange}, {1, math.MinInt, 1, api.ErrRange},
		{1, 0, 0, api.ErrRange}, {1, 0, -1, api.ErrRange}, {1, 0, 257, api.ErrRange}, {1, 0, math.MaxInt, api.ErrRange},
	} {
		h, e := heap.New(c.capacity, c.fuel, c.depth)
		if e != c.want || (h == nil) != (c.want != 0) {
			t.Errorf("7.1: New(%d, %d, %d): %v, %d", c.capacity, c.fuel, c.depth, h, e)
		}
		if h != nil && (h.Len() != 0 || h.Fuel() != c.fuel || len(h.Shapes()) != 0) {
			t.Errorf("7.1: New(%d, %d, %d): %d objects, fuel %d", c.capacity, c.fuel, c.depth, h.Len(), h.Fuel())
		}
	}
}

// 7.1
func TestRefuel(t *testing.T) {
	h, _ := heap.New(1, 3, 1)
	for _, c := range []struct {
		fuel, left int
		want       api.Errno
	}{{-1, 3, api.ErrRange}, {math.MinInt, 3, api.ErrRange}, {0, 0, 0}, {math.MaxInt, math.MaxInt, 0}, {2, 2, 0}} {
		if e := h.Refuel(c.fuel); e != c.want || h.Fuel() != c.left {
			t.Errorf("7.1: Refuel(%d): %d, %d left", c.fuel, e, h.Fuel())
		}
	}
}

// 7.2: capacity is room for just as many objects, of which none costs fuel, and a refusal for want of room comes last.
func TestCapacity(t *testing.T) {
	for _, room := range []int{0, 1, 2, 65536} {
		h, _ := heap.New(room, 0, 1)
		for n := 1; n <= room; n++ {
			if o, err := h.Make(null()); o != n || err != nil || h.Len() != n {
				t.Fatalf("7.2: room %d: %d, %v, %d", room, o, err, h.Len())
			}
		}
		for _, c := range []struct {
			proto api.Value
			want  error
		}{{null(), api.ErrFull}, {undefined(), api.ErrValue}, {api.Value{}, api.ErrValue}, {ref(65537), api.ErrValue}} {
			if o, err := h.Make(c.proto); o != 0 || err != c.want || h.Len() != room {
				t.Errorf("7.2: room %d: Make(%v): %d, %v", room, c.proto, o, err)
			}
		}
		if room < 65536 {
			if o, err := h.Make(ref(room + 1)); o != 0 || err != api.ErrRef {
				t.Errorf("7.2: room %d: Make(#%d): %d, %v", room, room+1, o, err)
			}
		}
	}
}

// 7.2: values of the heap, values that are no more than well formed, and those that are not.
func TestCheck(t *testing.T) {
	h := fresh(t, 0, 1)
	for _, v := range []api.Value{undefined(), null(), {Kind: api.KBool}, {Kind: api.KBool, Bool: true}, num(math.NaN()), num(math.Copysign(0, -1)), text(""), text("\xed\xa0\xbd"), {Kind: api.KSym, Id: 65536}, ref(1), ref(4)} {
		if e := h.Check(v); e != api.OK {
			t.Errorf("7.2: Check(%v): %d", v, e)
		}
	}
	for _, n := range []int{5, 6, 7, 65536} {
		if h.Check(ref(n)) != api.ErrRef || h.Callable(ref(n)) || h.Constructor(ref(n)) {
			t.Errorf("7.2: Check(#%d): %d", n, h.Check(ref(n)))
		}
		if o, err := h.Make(ref(n)); o != 0 || err != api.ErrRef {
			t.Errorf("7.2: Make(#%d): %d, %v", n, o, err)
		}
	}
	long := text(strings.Repeat("x", api.MaxStr+1))
	nought := api.Value{Kind: api.KNull, Num: math.Copysign(0, -1)}
	for _, v := range append(broken(), long, nought) {
		if h.Check(v) != api.ErrValue || h.Callable(v) || h.Constructor(v) {
			t.Errorf("7.2: Check of kind %d, id %d: %d", v.Kind, v.Id, h.Check(v))
		}
		if o, err := h.Make(v); o != 0 || err != api.ErrValue {
			t.Errorf("7.2: Make of kind %d, id %d: %d, %v", v.Kind, v.Id, o, err)
		}
	}
	for _, v := range []api.Value{undefined(), {Kind: api.KBool}, num(0), text("a"), {Kind: api.KSym, Id: 1}} {
		if o, err := h.Make(v); o != 0 || err != api.ErrValue {
			t.Errorf("7.2: Make(%v): %d, %v", v, o, err)
		}
	}
	if h.Len() != 4 || h.Fuel() != 0 {
		t.Errorf("7.2: what was refused: %d objects, fuel %d", h.Len(), h.Fuel())
	}
}

// 7.3
func TestClassAndShape(t *testing.T) {
	h := fresh(t, 0, 1)
	for _, o := range []int{0, -1, 5, math.MaxInt, math.MinInt} {
		if c, e := h.Class(o); c != 0 || e != api.ErrRef {
			t.Errorf("7.3: Class(%d): %d, %d", o, c, e)
		}
		if s, e := h.Shape(o); s.Class != 0 || s.Proto != (api.Value{}) || s.Extensible || len(s.Props) != 0 || e != api.ErrRef {
			t.Errorf("7.3: Shape(%d): %v, %d", o, s, e)
		}
		if h.Own(o) != nil {
			t.Errorf("Own(%d): %v", o, h.Own(o))
		}
	}
	want := []api.Shape{
		{Class: api.COrdinary, Proto: null(), Extensible: true}, {Class: api.CNative, Proto: null(), Extensible: true},
		{Class: api.CNative, Proto: null(), Extensible: true}, {Class: api.COrdinary, Proto: ref(1), Extensible: true},
	}
	agree(t, h, want)
	// Own properties stand as they came; one that is taken away and comes again stands last.
	for i, k := range []api.Key{str("b"), sym(2), str("1"), str("a"), str("0")} {
		define(t, h, 4, k, all(num(float64(i))))
		want[3].Props = append(want[3].Props, api.Prop{Key: k, Desc: all(num(float64(i)))})
	}
	agree(t, h, want)
	h.Refuel(3)
	h.Delete(4, sym(2))
	h.DefineOwnProperty(4, str("b"), api.Desc{Value: num(9)})
	h.DefineOwnProperty(4, sym(2), api.Desc{Get: ref(2)})
	l := want[3].Props
	l[0].Desc.Value = num(9)
	l = append(slices.Delete(l, 1, 2), api.Prop{Key: sym(2), Desc: api.Desc{Get: ref(2), Set: undefined(), Enumerable: api.No, Configurable: api.No}})
	want[3].Props = l
	agree(t, h, want)
	h.Refuel(2)
	h.PreventExtensions(4)
	h.SetPrototypeOf(1, ref(2))
	want[3].Extensible, want[0].Proto = false, ref(2)
	agree(t, h, want)
}

// agree holds what a heap tells of its objects against shapes.
func agree(t *testing.T, h *heap.Heap, want []api.Shape) {
	t.Helper()
	if l := h.Shapes(); !sameShapes(l, want) || h.Len() != len(want) {
		t.Errorf("7.3: Shapes %v, want %v", l, want)
	}
	for i, w := range want {
		s, e := h.Shape(i + 1)
		c, f := h.Class(i + 1)
		if !sameShapes([]api.Shape{s}, []api.Shape{w}) || c != w.Class || e != api.OK || f != api.OK {
			t.Errorf("7.3: Shape(%d): %v, %d, class %d, %d, want %v", i+1, s, e, c, f, w)
		}
	}
}

// 7.3: what can be called, and constructed: objects of the heap that have the method, and no other values.
func TestCallable(t *testing.T) {
	h := fresh(t, 0, 1)
	for _, c := range []struct {
		v           api.Value
		call, build bool
	}{
		{ref(1), false, false}, {ref(2), true, false}, {ref(3), true, true}, {ref(4), false, false}, {ref(5), false, false},
		{undefined(), false, false}, {null(), false, false}, {num(2), false, false}, {api.Value{Kind: api.KSym, Id: 3}, false, false},
		{api.Value{Id: 3}, false, false}, {api.Value{Kind: api.KRef, Id: 3, Num: 1}, false, false}, {api.Value{Kind: api.KRef, Id: 3, Str: "a"}, false, false},
	} {
		if h.Callable(c.v) != c.call || h.Constructor(c.v) != c.build {
			t.Errorf("7.3: %v: %v, %v", c.v, h.Callable(c.v), h.Constructor(c.v))
		}
	}
}

// 7.5: numbers are never given twice, and what there was is as it was.
func TestNumbers(t *testing.T) {
	h, _ := heap.New(40, 1000, 5)
	seen := map[int]int{}
	for n := range 60 {
		before := h.Shapes()
		proto := null()
		if n%3 == 2 {
			proto = ref(1 + n%7)
		}
		o, err := h.Make(proto)
		after := h.Shapes()
		if err != nil {
			if o != 0 || !sameShapes(before, after) {
				t.Errorf("7.5: %d: %v, object %d, %d objects", n, err, o, h.Len())
			}
			continue
		}
		if seen[o]++; seen[o] > 1 || len(after) != len(before)+1 || o != len(after) || !sameShapes(after[:len(before)], before) {
			t.Errorf("7.5: %d: object %d, %v, then %v", n, o, before, after)
		}
		h.DefineOwnProperty(o, str("a"), all(num(float64(n))))
		h.Delete(o-1, str("a"))
	}
	if len(seen) != 40 {
		t.Errorf("7.5: %d objects", len(seen))
	}
}

// The chapter's examples.
func TestExamples(t *testing.T) {
	h, _ := heap.New(2, 10, 5)
	a, e1 := h.Make(null())
	b, e2 := h.Make(ref(1))
	_, e3 := h.Make(null())
	if a != 1 || b != 2 || e1 != nil || e2 != nil || e3 != api.ErrFull {
		t.Error(a, b, e1, e2, e3)
	}
	if s, e := h.Shape(2); !sameShapes([]api.Shape{s}, []api.Shape{{Class: api.COrdinary, Proto: ref(1), Extensible: true}}) || e != 0 {
		t.Error(s, e)
	}
	none, _ := heap.New(0, 0, 1)
	if _, err := none.Make(null()); err != api.ErrFull {
		t.Error(err)
	}
	if _, err := h.Get(3, str("a"), undefined()); err != api.ErrRef || h.Fuel() != 10 {
		t.Error(err, h.Fuel())
	}
	h.Refuel(0)
	if v, err := h.GetPrototypeOf(1); v != (api.Value{}) || err != api.ErrFuel {
		t.Error(v, err)
	}
}
