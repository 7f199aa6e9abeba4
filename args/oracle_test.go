package args_test

// The layer read a second time, by other means, as ECMA-262 has it (10.4.4): what lies in the object grows old, and beside it stands a map from keys to the cells of an environment, which five methods ask; none of the package's functions is used.

import (
	"slices"

	"cameo/api"
	"cameo/args"
	"cameo/desc"
	"cameo/heap"
)

// cell is a parameter; its environment and the map share it.
type cell struct {
	name  string
	value api.Value
}

// environment is what a twin alone has.
type environment struct {
	cells []*cell
	links map[api.Key]*cell
}

// twin is the methods of a mapped arguments object, by the second reading.
type twin struct{ heap.Ordinary }

func linkOf(h *heap.Heap, o int, k api.Key) *cell { return h.Own(o).(*environment).links[k] }

func (m twin) GetOwnProperty(h *heap.Heap, o int, k api.Key) (api.Desc, bool, error) {
	d, ok, err := m.Ordinary.GetOwnProperty(h, o, k)
	if c := linkOf(h, o, k); c != nil {
		d.Value = c.value
	}
	return d, ok, err
}

func (m twin) DefineOwnProperty(h *heap.Heap, o int, k api.Key, d api.Desc) (bool, error) {
	c, next := linkOf(h, o, k), d
	if c != nil && desc.Data(d) && d.Value.Kind == api.KNone && d.Writable == api.No {
		next.Value = c.value
	}
	if ok, err := m.Ordinary.DefineOwnProperty(h, o, k, next); !ok || err != nil {
		return false, err
	}
	if c == nil {
		return true, nil
	}
	links := h.Own(o).(*environment).links
	if desc.Accessor(d) {
		delete(links, k)
		return true, nil
	}
	if d.Value.Kind != api.KNone {
		c.value = d.Value
	}
	if d.Writable == api.No {
		delete(links, k)
	}
	return true, nil
}

func (m twin) Get(h *heap.Heap, o int, k api.Key, receiver api.Value) (api.Value, error) {
	if c := linkOf(h, o, k); c != nil {
		return c.value, nil
	}
	return m.Ordinary.Get(h, o, k, receiver)
}

func (m twin) Set(h *heap.Heap, o int, k api.Key, v, receiver api.Value) (bool, error) {
	if c := linkOf(h, o, k); c != nil && receiver.Kind == api.KRef && receiver.Id == o {
		c.value = v
	}
	return m.Ordinary.Set(h, o, k, v, receiver)
}

func (m twin) Delete(h *heap.Heap, o int, k api.Key) (bool, error) {
	ok, err := m.Ordinary.Delete(h, o, k)
	if ok && err == nil {
		delete(h.Own(o).(*environment).links, k)
	}
	return ok, err
}

// reading is the layer, by the package or by the second reading.
type reading struct {
	mapped   func(h *heap.Heap, proto api.Value, l []api.Value, names []string, callee api.Value) (int, error)
	unmapped func(h *heap.Heap, proto api.Value, l []api.Value, thrower api.Value) (int, error)
	setSlot  func(h *heap.Heap, o int, name string, v api.Value) api.Errno
	moment   func(h *heap.Heap) moment
}

// few is more than the numbers of all indices that are tied where things are drawn at random.
const few = 6

func byPackage() reading {
	return reading{args.Mapped, args.Unmapped, args.SetSlot, func(h *heap.Heap) moment {
		m := moment{shapes: h.Shapes()}
		for o := range h.Len() {
			m.slots = append(m.slots, slotsBelow(h, o+1, few))
		}
		return m
	}}
}

func byTwins() reading { return reading{twinMapped, twinUnmapped, twinSetSlot, twinMoment} }

func twinMapped(h *heap.Heap, proto api.Value, l []api.Value, names []string, callee api.Value) (int, error) {
	e := &environment{links: map[api.Key]*cell{}}
	list := props(l, data(callee, "wc"))
	for _, s := range begins(l, names) {
		c := &cell{s.name, s.value}
		e.cells = append(e.cells, c)
		if s.index >= 0 {
			e.links[list[s.index].Key] = c
		}
	}
	return laid(h, proto, twin{}, e, list)
}

func twinUnmapped(h *heap.Heap, proto api.Value, l []api.Value, thrower api.Value) (int, error) {
	return laid(h, proto, heap.Ordinary{}, nil, props(l, accessor(thrower, thrower, "")))
}

func laid(h *heap.Heap, proto api.Value, m heap.Methods, own any, list []api.Prop) (int, error) {
	o, err := h.Add(api.CArguments, proto, m, own)
	if err != nil {
		return 0, err
	}
	for _, p := range list {
		if _, err := (heap.Ordinary{}).DefineOwnProperty(h, o, p.Key, p.Desc); err != nil {
			return 0, err
		}
	}
	return o, nil
}

func twinSetSlot(h *heap.Heap, o int, name string, v api.Value) api.Errno {
	if o < 1 || o > h.Len() {
		return api.ErrRef
	}
	e, ok := h.Own(o).(*environment)
	if !ok {
		return api.ErrKind
	}
	at := slices.IndexFunc(e.cells, func(c *cell) bool { return c.name == name })
	if at < 0 {
		return api.ErrRange
	}
	if wrong := h.Check(v); wrong != api.OK {
		return wrong
	}
	e.cells[at].value = v
	return api.OK
}

// twinMoment is a heap with twins as the chapter has it: what is tied tells its cell.
func twinMoment(h *heap.Heap) moment {
	m := moment{shapes: h.Shapes()}
	for o := range h.Len() {
		var l []slot
		if e, ok := h.Own(o + 1).(*environment); ok {
			l = e.slots(m.shapes[o].Props)
		}
		m.slots = append(m.slots, l)
	}
	return m
}

// slots is what an environment has; properties that are linked are told anew on the way.
func (e *environment) slots(list []api.Prop) []slot {
	var l []slot
	for _, c := range e.cells {
		x := slot{c.name, c.value, -1}
		for i := range list {
			if k := list[i].Key; e.links[k] == c {
				list[i].Desc.Value, x.index = c.value, int(k.Str[0]-'0')
			}
		}
		l = append(l, x)
	}
	return l
}
