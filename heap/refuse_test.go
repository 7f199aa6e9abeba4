package heap_test

import (
	"math"
	"reflect"
	"slices"
	"strings"
	"testing"

	"cameo/api"
	"cameo/heap"
)

// given is what the thirteen may be given; each takes what it needs.
type given struct {
	o, target   int
	k           api.Key
	d           api.Desc
	v, receiver api.Value
	args        []api.Value
}

// method is one of the thirteen, what it takes without a fault, and the parts of which it may be given wrong ones.
type method struct {
	name  string
	call  func(h *heap.Heap, g given) []any
	good  given
	parts string
}

func methods() []method {
	answer := func(l ...any) []any { return l }
	plain := given{o: 4, target: 3, k: str("a"), d: all(num(1)), v: null(), receiver: ref(4)}
	function, ctor := plain, plain
	function.o, function.args = 2, []api.Value{num(1), num(2)}
	ctor.o, ctor.args = 3, []api.Value{num(1), num(2)}
	return []method{
		{"GetPrototypeOf", func(h *heap.Heap, g given) []any { return answer(h.GetPrototypeOf(g.o)) }, plain, "o"},
		{"SetPrototypeOf", func(h *heap.Heap, g given) []any { return answer(h.SetPrototypeOf(g.o, g.v)) }, plain, "o v proto"},
		{"IsExtensible", func(h *heap.Heap, g given) []any { return answer(h.IsExtensible(g.o)) }, plain, "o"},
		{"PreventExtensions", func(h *heap.Heap, g given) []any { return answer(h.PreventExtensions(g.o)) }, plain, "o"},
		{"GetOwnProperty", func(h *heap.Heap, g given) []any { return answer(h.GetOwnProperty(g.o, g.k)) }, plain, "o k"},
		{"DefineOwnProperty", func(h *heap.Heap, g given) []any { return answer(h.DefineOwnProperty(g.o, g.k, g.d)) }, plain, "o k d"},
		{"HasProperty", func(h *heap.Heap, g given) []any { return answer(h.HasProperty(g.o, g.k)) }, plain, "o k"},
		{"Get", func(h *heap.Heap, g given) []any { return answer(h.Get(g.o, g.k, g.receiver)) }, plain, "o k receiver"},
		{"Set", func(h *heap.Heap, g given) []any { return answer(h.Set(g.o, g.k, g.v, g.receiver)) }, plain, "o k v receiver"},
		{"Delete", func(h *heap.Heap, g given) []any { return answer(h.Delete(g.o, g.k)) }, plain, "o k"},
		{"OwnPropertyKeys", func(h *heap.Heap, g given) []any { return answer(h.OwnPropertyKeys(g.o)) }, plain, "o"},
		{"Call", func(h *heap.Heap, g given) []any { return answer(h.Call(g.o, g.receiver, g.args)) }, function, "o receiver args calls"},
		{"Construct", func(h *heap.Heap, g given) []any { return answer(h.Construct(g.o, g.args, g.target)) }, ctor, "o target args builds"},
	}
}

// fault is one thing that is wrong: rank is its place in the order of 7.4; part is what it is in, and where is the piece of it that it turns (two faults of one piece cannot be told apart).
type fault struct {
	part, where string
	rank        int
	e           api.Errno
	turn        func(g *given)
}

func faults() []fault {
	long := strings.Repeat("x", api.MaxStr+1)
	l := []fault{
		{"proto", "v", 4, api.ErrValue, func(g *given) { g.v = undefined() }},
		{"proto", "v", 4, api.ErrValue, func(g *given) { g.v = text("a") }},
		{"d", "flags", 2, api.ErrValue, func(g *given) { g.d.Enumerable = 3 }},
		{"d", "flags", 2, api.ErrValue, func(g *given) { g.d.Configurable = -1 }},
		{"d", "fields", 2, api.ErrValue, func(g *given) { g.d.Value = api.Value{Kind: 9} }},
		{"d", "fields", 2, api.ErrValue, func(g *given) { g.d.Value, g.d.Get = num(1), undefined() }},
		{"d", "fields", 2, api.ErrValue, func(g *given) { g.d.Value, g.d.Writable, g.d.Get = api.Value{}, 0, num(1) }},
		{"d", "fields", 3, api.ErrRef, func(g *given) { g.d.Value = ref(5) }},
		{"d", "fields", 3, api.ErrRef, func(g *given) { accessor(g, ref(5), api.Value{}) }},
		{"d", "fields", 3, api.ErrRef, func(g *given) { accessor(g, api.Value{}, ref(65536)) }},
		{"d", "fields", 3, api.ErrRef, func(g *given) { accessor(g, ref(1), ref(5)) }}, // which of the two is no matter of their places
		{"d", "fields", 4, api.ErrKind, func(g *given) { accessor(g, ref(1), ref(2)) }},
		{"d", "fields", 4, api.ErrKind, func(g *given) { accessor(g, ref(3), ref(4)) }},
		{"d", "fields", 4, api.ErrKind, func(g *given) { accessor(g, undefined(), ref(4)) }},
		{"args", "first", 2, api.ErrValue, func(g *given) { g.args[0] = api.Value{} }},
		{"args", "first", 3, api.ErrRef, func(g *given) { g.args[0] = ref(5) }},
		{"args", "second", 2, api.ErrValue, func(g *given) { g.args[1] = api.Value{Kind: api.KStr, Str: "\xff"} }},
		{"args", "second", 3, api.ErrRef, func(g *given) { g.args[1] = ref(65536) }},
		{"args", "length", 5, api.ErrLong, func(g *given) {
			g.args = append(g.args, slices.Repeat([]api.Value{null()}, 1025-len(g.args))...)
		}},
		{"args", "length", 5, api.ErrLong, func(g *given) { g.args = append(g.args, slices.Repeat([]api.Value{null()}, 5000)...) }},
		{"calls", "o", 6, api.ErrKind, func(g *given) { g.o = 1 }},
		{"builds", "o", 6, api.ErrKind, func(g *given) { g.o = 1 }},
		{"builds", "o", 6, api.ErrKind, func(g *given) { g.o = 2 }},
		{"builds", "target", 6, api.ErrKind, func(g *given) { g.target = 4 }},
		{"builds", "target", 6, api.ErrKind, func(g *given) { g.target = 2 }},
	}
	for _, n := range []int{0, -1, 5, 65537, math.MaxInt, math.MinInt} {
		l = append(l, fault{"o", "o", 1, api.ErrRef, func(g *given) { g.o = n }}, fault{"target", "target", 1, api.ErrRef, func(g *given) { g.target = n }})
	}
	for _, k := range []api.Key{str("\xff"), str(long), {Str: "a", Sym: 1}, sym(-1), sym(65537)} {
		l = append(l, fault{"k", "k", 2, api.ErrValue, func(g *given) { g.k = k }})
	}
	for _, v := range append(broken(), text(long)) {
		l = append(l, fault{"v", "v", 2, api.ErrValue, func(g *given) { g.v = v }}, fault{"receiver", "receiver", 2, api.ErrValue, func(g *given) { g.receiver = v }})
	}
	for _, n := range []int{5, 65536} {
		l = append(l, fault{"v", "v", 3, api.ErrRef, func(g *given) { g.v = ref(n) }}, fault{"receiver", "receiver", 3, api.ErrRef, func(g *given) { g.receiver = ref(n) }})
	}
	return l
}

// accessor makes the descriptor one of an accessor; flags that are wrong stay so.
func accessor(g *given, get, set api.Value) {
	g.d.Value, g.d.Writable, g.d.Get, g.d.Set = api.Value{}, 0, get, set
}

// of is the faults that a method may have.
func (m method) of(l []fault) []fault {
	var mine []fault
	for _, f := range l {
		if slices.Contains(strings.Fields(m.parts), f.part) {
			mine = append(mine, f)
		}
	}
	return mine
}

// refused makes a call with faults, and holds its answer against the error; neither heap nor fuel nor what was handed in may change.
func (m method) refused(t *testing.T, h *heap.Heap, want api.Errno, turns ...fault) {
	t.Helper()
	g := m.good
	g.args = slices.Clone(g.args)
	for _, f := range turns {
		f.turn(&g)
	}
	args, before, fuel := slices.Clone(g.args), h.Shapes(), h.Fuel()
	got := m.call(h, g)
	for _, x := range got[:len(got)-1] {
		if v := reflect.ValueOf(x); !v.IsZero() {
			t.Errorf("7.4: %s: %v beside an error", m.name, x)
		}
	}
	if got[len(got)-1] != want {
		t.Errorf("7.4: %s: %v, want %v (%v)", m.name, got[len(got)-1], want, turns)
	}
	if h.Fuel() != fuel || !sameShapes(h.Shapes(), before) || !slices.Equal(g.args, args) {
		t.Errorf("7.4: %s: what is refused changes something (%v)", m.name, turns)
	}
}

// 7.4: each refusal; and of two the one that is named first, whether there is fuel or none.
func TestRefused(t *testing.T) {
	for _, fuel := range []int{0, 7} {
		h := fresh(t, fuel, 1)
		define(t, h, 4, str("a"), all(num(5)))
		for _, m := range methods() {
			l := m.of(faults())
			for i, f := range l {
				m.refused(t, h, f.e, f)
				for _, g := range l[:i] {
					if f.where == g.where {
						continue
					}
					first := f
					if g.rank < f.rank {
						first = g
					}
					m.refused(t, h, first.e, g, f)
				}
			}
		}
	}
}

// 7.4: what is not refused is entered: it costs one unit, and without one it stops, and changes nothing.
func TestEntered(t *testing.T) {
	for _, m := range methods() {
		h := fresh(t, 1, 1)
		got := m.call(h, m.good)
		var want error
		if slices.Contains([]string{"HasProperty", "Get", "Set"}, m.name) {
			want = api.ErrFuel // they go on into the prototype
		}
		if err, _ := got[len(got)-1].(error); err != want {
			t.Errorf("7.4: %s: %v", m.name, got)
		}
		if h.Fuel() != 0 {
			t.Errorf("7.5: %s left %d", m.name, h.Fuel())
		}
		m.refused(t, h, api.ErrFuel)
	}
}

// 7.4: edges that are not refused.
func TestNotRefused(t *testing.T) {
	h := fresh(t, 1000, 5)
	many := slices.Repeat([]api.Value{ref(4)}, api.MaxArgs)
	if v, err := h.Call(2, text("x"), many); v != text("x") || err != nil {
		t.Errorf("7.4: Call with %d arguments: %v, %v", len(many), v, err)
	}
	if n, err := h.Construct(3, many, 3); n != 3 || err != nil {
		t.Errorf("7.4: Construct with %d arguments: %v, %v", len(many), n, err)
	}
	if n, err := h.Construct(3, nil, 3); n != 3 || err != nil {
		t.Errorf("7.4: Construct: %v, %v", n, err)
	}
	for i, d := range []api.Desc{{}, {Get: ref(2)}, {Set: ref(3), Get: ref(2)}, {Get: undefined()}, {Value: ref(4)}, {Value: ref(2)}, {Enumerable: api.Yes}} {
		if ok, err := h.DefineOwnProperty(1, sym(1+i), d); !ok || err != nil {
			t.Errorf("7.4: DefineOwnProperty %v: %v, %v", d, ok, err)
		}
	}
	for _, k := range []api.Key{str(""), str(strings.Repeat("x", api.MaxStr)), sym(65536), str("\xed\xa0\xbd")} {
		if ok, err := h.DefineOwnProperty(4, k, all(num(1))); !ok || err != nil {
			t.Errorf("7.4: a key of %d bytes: %v, %v", len(k.Str), ok, err)
		}
		if v, err := h.Get(4, k, undefined()); v != num(1) || err != nil {
			t.Errorf("7.4: Get of a key of %d bytes: %v, %v", len(k.Str), v, err)
		}
	}
	for _, v := range []api.Value{null(), ref(2), ref(4)} {
		if _, err := h.SetPrototypeOf(4, v); err != nil {
			t.Errorf("7.4: SetPrototypeOf %v: %v", v, err)
		}
	}
}
