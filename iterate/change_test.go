package iterate_test

// Something is changed in the midst: behind each line of each act, an object gets a property, or loses one, or gets another prototype; all that comes then finds it so.

import (
	"slices"
	"testing"

	"cameo/api"
	"cameo/heap"
)

// change is what is done to an object once a line has been written, ahead of what the line tells: a property is taken away, if it can be, and laid anew, if there is a descriptor; or, if there is a prototype, it gets that one instead.
type change struct {
	line, o int
	k       api.Key
	d       api.Desc
	proto   api.Value
}

// in changes a heap; nothing is entered.
func (c change) in(h *heap.Heap) {
	m := heap.Ordinary{}
	if c.proto.Kind != api.KNone {
		m.SetPrototypeOf(h, c.o, c.proto)
		return
	}
	if ok, _ := m.Delete(h, c.o, c.k); ok && c.d != (api.Desc{}) {
		m.DefineOwnProperty(h, c.o, c.k, c.d)
	}
}

// of changes shapes.
func (c change) of(l []api.Shape) {
	s := &l[c.o-1]
	if c.proto.Kind != api.KNone {
		s.Proto = c.proto
		return
	}
	fixed := func(x api.Prop) bool { return x.Key == c.k && x.Desc.Configurable == api.No }
	if slices.ContainsFunc(s.Props, fixed) {
		return
	}
	s.Props = slices.DeleteFunc(slices.Clone(s.Props), func(x api.Prop) bool { return x.Key == c.k })
	if c.d != (api.Desc{}) {
		s.Props = append(s.Props, api.Prop{Key: c.k, Desc: c.d})
	}
}

// changed plays acts, and changes something in the midst.
func changed(t *testing.T, c cast, l []act, x change) {
	t.Helper()
	s := stage{120, 200, 200}
	p := newPlot(c, s, never())
	p.change = x
	h, d := c.staged(t, s)
	d.meet = func(n int, _ string) error {
		if n == x.line {
			x.in(h)
		}
		return nil
	}
	for _, a := range l {
		want, wrong := p.played(a)
		answer, err := a.played(h)
		if a.name == "Refuel" {
			d.fuel = -1
		}
		if answer != want || !sameError(err, wrong) || !slices.Equal(d.lines, p.lines) || h.Fuel() != p.fuel {
			t.Fatalf("%v, %+v: %s, %v, %q; want %s, %v, %q", a, x, answer, err, d.lines, want, wrong, p.lines)
		}
		if l := h.Shapes(); !sameShapes(l, p.shapes) {
			t.Fatalf("%v, %+v: %v; want %v", a, x, l, p.shapes)
		}
	}
}

// everywhere plays acts with each change behind each line: how many plays that is.
func everywhere(t *testing.T, c cast, changes []change, l ...act) int {
	t.Helper()
	lines := len(comes(t, c, l, stage{120, 200, 200}, never()).lines)
	for n := range lines {
		for _, x := range changes {
			x.line = n
			changed(t, c, l, x)
		}
	}
	return lines * len(changes)
}

// descs is descriptors of all sorts, of a value.
func descs(v api.Value) []api.Desc {
	return []api.Desc{{}, data(v, "wec"), data(v, "c"), accessor(ref(tells), undefined(), "ec"), accessor(undefined(), undefined(), "")}
}

// changesOf is all changes of some keys of an object.
func changesOf(o int, values []api.Value, keys ...api.Key) []change {
	var l []change
	for _, k := range keys {
		for _, v := range values {
			for _, d := range descs(v) {
				l = append(l, change{o: o, k: k, d: d})
			}
		}
	}
	return l
}

func TestIteratorsChanged(t *testing.T) {
	t.Parallel()
	some := []api.Value{undefined(), num(1), ref(goes), ref(back), ref(other)}
	l := slices.Concat(
		changesOf(asked, some[:3], sym(api.SymIterator)), changesOf(iter, some, str("next"), str("return")), changesOf(other, some[2:], str("return"), str("done"), str("next")),
		changesOf(first, some, str("done"), str("value")), changesOf(second, some[:4], str("done"), str("value")), changesOf(last, []api.Value{no(), num(1)}, str("done"), str("value")),
		[]change{{o: iter, proto: ref(other)}, {o: second, proto: ref(other)}, {o: first, proto: ref(tells)}, {o: asked, proto: null()}},
	)
	n := 0
	for _, x := range append(loops(), closes(iter, ref(goes), nil), closes(iter, ref(goes), thrown(num(1)))) {
		c := protocol()
		c.answers[tells] = []api.Value{ref(goes), no(), ref(back)}
		n += everywhere(t, c, l, x)
		c.answers[body] = []api.Value{undefined(), no()}
		c.shapes[iter-1].Proto = ref(other)
		n += everywhere(t, c.put(iter, str("return"), absent, undefined()).put(first, str("done"), getter, no()), l, x)
	}
	n += everywhere(t, protocol(), l, steps(iter, ref(goes)), steps(iter, ref(goes)), steps(iter, ref(goes)))
	if n < 5000 {
		t.Errorf("%d plays", n)
	}
}

func TestArrayIteratorsChanged(t *testing.T) {
	t.Parallel()
	lengths := []api.Value{num(0), num(1), num(2), num(4), text("1"), ref(speaks), symbol(1)}
	l := slices.Concat(
		changesOf(asked, lengths, str("length")), changesOf(asked, []api.Value{num(9), undefined()}, str("0"), str("1"), str("2")), changesOf(its, []api.Value{num(1), ref(says)}, str("next"), str("return")),
		changesOf(other, lengths[:4], str("length"), str("1")), []change{{o: asked, proto: ref(other)}, {o: its, proto: ref(other)}},
	)
	n := 0
	for _, kind := range kinds() {
		for _, r := range rounds(4) {
			n += everywhere(t, cursors(kind), l, r...)
			c := cursors(kind).put(asked, str("length"), getter, num(3)).put(asked, str("1"), getterAbove, num(1))
			c.answers[tells] = []api.Value{num(3), num(1), num(3), num(2)}
			n += everywhere(t, c, l, r...)
		}
	}
	if n < 5000 {
		t.Errorf("%d plays", n)
	}
}
