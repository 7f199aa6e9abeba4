package mirror_test

// 22.9, 22.10, W2 and W3: what follows, over objects of every class, programs and acts drawn at random, behind each act and within each function that is called.

import (
	"slices"
	"testing"

	"cameo/api"
	"cameo/array"
	"cameo/convert"
	"cameo/heap"
	"cameo/invariant"
	"cameo/key"
	"cameo/mirror"
	"cameo/ordinary"
)

// watch is a heap, and its moments so far.
type watch struct {
	t       *testing.T
	h       *heap.Heap
	moments [][]api.Shape
}

// look holds this moment against what always holds, and against the last ones.
func (w *watch) look() {
	if w.h == nil {
		return // it is being built
	}
	shapes := w.h.Shapes()
	if at := ordinary.Sound(shapes); at != -1 {
		w.t.Fatalf("W2: %d is not sound: %v", at+1, shapes)
	}
	for _, before := range w.moments[max(len(w.moments)-3, 0):] {
		if o, rule := invariant.Broken(before, shapes); rule != 0 {
			w.t.Fatalf("W3: %d breaks the rule %d: %v became %v", o, rule, before, shapes)
		}
	}
	w.moments = append(w.moments, shapes)
}

// gently does something with as much fuel as it needs, and gives the heap back what it had.
func gently(h *heap.Heap, do func()) {
	fuel := h.Fuel()
	h.Refuel(1 << 20)
	do()
	h.Refuel(fuel)
}

// told is the values of an array.
func told(h *heap.Heap, v api.Value, err error) ([]api.Value, bool) {
	if err != nil {
		return nil, false
	}
	l, e := array.Values(h, v.Id, 1000)
	return l, e == api.OK
}

// dataAlone tells whether an object's properties are data, whatever that costs, and whether nothing else is behind them than they themselves.
func dataAlone(h *heap.Heap, o int) bool {
	keys, err := h.OwnPropertyKeys(o)
	if err != nil || classOf(h, o) == api.CProxy {
		return false
	}
	for _, k := range keys {
		d, there, err := h.GetOwnProperty(o, k)
		if !there || err != nil || isAccessor(d) {
			return false
		}
	}
	return true
}

func classOf(h *heap.Heap, o int) int {
	c, _ := h.Class(o)
	return c
}

// listsAgree holds 22.9 of the lists of an object: how many have been held.
func listsAgree(t *testing.T, h *heap.Heap, o int) int {
	t.Helper()
	if !dataAlone(h, o) {
		return 0
	}
	v, err := mirror.Keys(h, ref(o))
	keys, ok := told(h, v, err)
	v, err = mirror.Values(h, ref(o))
	values, also := told(h, v, err)
	v, err = mirror.Entries(h, ref(o))
	entries, last := told(h, v, err)
	if !ok || !also || !last {
		return 0 // there is no room
	}
	var left, right []api.Value
	for _, e := range entries {
		pair, ok := told(h, e, nil)
		if !ok || len(pair) != 2 {
			t.Fatalf("22.9: %d: %v", o, pair)
		}
		left, right = append(left, pair[0]), append(right, pair[1])
	}
	if !sameValues(keys, left) || !sameValues(values, right) {
		t.Fatalf("22.9: %d: %v and %v, but %v and %v", o, keys, values, left, right)
	}
	for i, k := range keys {
		at, _ := key.Of(k)
		d, there, err := h.GetOwnProperty(o, at)
		if !there || err != nil || d.Enumerable != api.Yes || !sameValue(d.Value, values[i]) {
			t.Fatalf("22.9: %d: %v is %v, %v, %v; want %v", o, k, d, there, err, values[i])
		}
	}
	return 1
}

// madeAgain holds 22.9 of Descriptors and Create of an ordinary object.
func madeAgain(t *testing.T, h *heap.Heap, o int) int {
	t.Helper()
	if classOf(h, o) != api.COrdinary {
		return 0
	}
	proto, _ := h.GetPrototypeOf(o)
	d, err := mirror.Descriptors(h, ref(o))
	if err != nil {
		return 0
	}
	v, err := mirror.Create(h, proto, d)
	if err == api.ErrFull {
		return 0
	}
	if err != nil {
		t.Fatalf("22.9: %d: %v", o, err)
	}
	was, is := shapeOf(t, h, o), shapeOf(t, h, v.Id)
	before, _ := h.OwnPropertyKeys(o)
	after, _ := h.OwnPropertyKeys(v.Id)
	if !sameValue(is.Proto, was.Proto) || !slices.Equal(before, after) || len(was.Props) != len(is.Props) {
		t.Fatalf("22.9: %d is %v, and again %v", o, was, is)
	}
	for _, k := range before {
		a, _, _ := h.GetOwnProperty(o, k)
		b, there, err := h.GetOwnProperty(v.Id, k)
		if !there || err != nil || !sameDesc(a, b) {
			t.Fatalf("22.9: %d: %v is %v, and again %v, %v, %v", o, k, a, b, there, err)
		}
	}
	return 1
}

func TestWhatFollows(t *testing.T) {
	t.Parallel()
	within, lists, again := 0, 0, 0
	for seed := range int64(500) {
		w := &watch{t: t}
		by := byPackage()
		h, c := build(t, seed, 400, 12, by, func() { within++; w.look() })
		w.h = h
		w.look()
		for range 12 {
			h.Refuel(200)
			do(h, c, by)
			w.look()
		}
		gently(h, func() {
			for o := 1; o <= lastOf; o++ {
				lists += listsAgree(t, h, o)
				again += madeAgain(t, h, o)
			}
		})
		w.look()
	}
	if within < 500 || lists < 2000 || again < 1500 {
		t.Errorf("functions looked %d times; %d lists, %d objects made again", within, lists, again)
	}
}

// 22.10 of objects, keys and acts at random: Reflect's functions are the internal methods.
func TestReflectIsTheMethods(t *testing.T) {
	t.Parallel()
	by, played := byPackage(), 0
	for seed := range int64(600) {
		one, c := build(t, seed, mostWide, 12, by, func() {})
		two, d := build(t, seed, mostWide, 12, by, func() {})
		for range 25 {
			fuel := pick(c, c.Intn(12), 300)
			pick(d, d.Intn(12), 300)
			one.Refuel(fuel)
			two.Refuel(fuel)
			x, y := c.call(), d.call()
			if !mirrors(one, x) {
				continue
			}
			got, err := x.played(one)
			want, wrong := y.method(two)
			played++
			if got != want || !sameError(err, wrong) || one.Fuel() != two.Fuel() || !sameMoment(now(one), now(two)) {
				t.Fatalf("22.10: seed %d: %v: %s, %v with %d left; want %s, %v with %d", seed, x, got, err, one.Fuel(), want, wrong, two.Fuel())
			}
		}
	}
	if played < 3000 {
		t.Errorf("%d acts", played)
	}
}

// mirrors tells whether an act is one of Reflect's, of values that fit: an object, and a key that is a string or a symbol.
func mirrors(h *heap.Heap, x act) bool {
	keyed := map[string]bool{"DefineProperty": true, "DeleteProperty": true, "Get": true, "Set": true, "Has": true, "Descriptor": true}[x.name]
	if !keyed && !slices.Contains([]string{"GetPrototypeOf", "SetPrototypeOf", "IsExtensible", "PreventExtensions"}, x.name) {
		return false
	}
	for _, v := range x.v {
		if h.Check(v) != api.OK {
			return false
		}
	}
	fits := x.v[0].Kind == api.KRef && (!keyed || x.v[1].Kind == api.KStr || x.v[1].Kind == api.KSym)
	return fits && (x.name != "SetPrototypeOf" || x.v[1].Kind == api.KRef || x.v[1].Kind == api.KNull)
}

// Where Assign has answered, of sources that are data and a target that is an ordinary object without prototype, which has nothing else: it has what these have, of the last one that has it.
func TestAssigned(t *testing.T) {
	t.Parallel()
	held := 0
	for seed := range int64(500) {
		h, c := build(t, seed, mostWide, 12, byPackage(), func() {})
		n, err := h.Make(null())
		target := ref(made(t, n, err))
		var sources []api.Value
		want := map[api.Key]api.Value{}
		gently(h, func() {
			for range 1 + c.Intn(3) {
				o := 1 + c.Intn(lastOf)
				if !dataAlone(h, o) {
					continue
				}
				sources = append(sources, ref(o), pick(c, undefined(), null(), num(5)))
				keys, _ := h.OwnPropertyKeys(o)
				for _, k := range keys {
					if d, _, _ := h.GetOwnProperty(o, k); d.Enumerable == api.Yes {
						want[k] = d.Value
					}
				}
			}
		})
		h.Refuel(1 << 12)
		if v, err := mirror.Assign(h, target, sources); v != target || err != nil {
			t.Fatalf("22.7: seed %d: %v, %v", seed, v, err)
		}
		s := shapeOf(t, h, n)
		if len(s.Props) != len(want) {
			t.Fatalf("22.7: seed %d: %v; want %v", seed, s, want)
		}
		for _, p := range s.Props {
			if v, there := want[p.Key]; !there || !sameDesc(p.Desc, data(v, "wec")) {
				t.Fatalf("22.7: seed %d: %v; want %v", seed, p, v)
			}
			held++
		}
	}
	if held < 500 {
		t.Errorf("%d properties", held)
	}
}

// Of every value, plain or not: Tag of what Object makes of it has its word, unless that says otherwise itself; IsArray of it is what it is of the value.
func TestObjectsTags(t *testing.T) {
	h := newHeap(t, 100, 1000, 9)
	for _, v := range plain() {
		if v.Kind == api.KUndefined || v.Kind == api.KNull {
			continue
		}
		o, err := mirror.Object(h, v)
		made(t, o, err)
		word := "[object Object]"
		if v.Kind == api.KStr {
			word = "[object String]"
		}
		ask("Tag", ref(o)).stays(t, h, 1, word, nil)
		ask("IsArray", ref(o)).stays(t, h, 0, false, nil)
		ask("Object", ref(o)).stays(t, h, 0, o, nil)
		if s, err := convert.TypeOf(h, ref(o)); s != "object" || err != api.OK {
			t.Errorf("%v: %s, %v", v, s, err)
		}
	}
}
