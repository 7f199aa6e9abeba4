package typed

import (
	"cameo/api"
	"cameo/desc"
	"cameo/heap"
	"cameo/key"
	"cameo/value"
)

// methods is the methods of a typed array: the ordinary ones, but for numeric keys, of which nothing ever lies there as a property.
type methods struct{ heap.Ordinary }

// element is the typed array o, and the number of a numeric key; false of any other key. (A symbol's string is empty, and so no number.)
func (methods) element(h *heap.Heap, o int, k api.Key) (view, float64, bool) {
	w, _ := viewOf(h, o)
	x, ok := key.Numeric(k.Str)
	return w, x, ok
}

// GetOwnProperty is an element as data that anybody may change, or what lies there.
func (m methods) GetOwnProperty(h *heap.Heap, o int, k api.Key) (api.Desc, bool, error) {
	w, x, ok := m.element(h, o, k)
	if !ok {
		return m.Ordinary.GetOwnProperty(h, o, k)
	}
	n, there := w.get(h, x)
	if !there {
		return api.Desc{}, false, nil
	}
	return api.Desc{Value: value.Num(n), Writable: api.Yes, Enumerable: api.Yes, Configurable: api.Yes}, true, nil
}

// DefineOwnProperty gives an element its value, where it would stay data that anybody may change.
func (m methods) DefineOwnProperty(h *heap.Heap, o int, k api.Key, d api.Desc) (bool, error) {
	w, x, ok := m.element(h, o, k)
	if !ok {
		return m.Ordinary.DefineOwnProperty(h, o, k, d)
	}
	if !w.there(h, x) || fixed(d) || desc.Accessor(d) {
		return false, nil
	}
	if d.Value.Kind == api.KNone {
		return true, nil
	}
	return given(w.give(h, x, d.Value))
}

// fixed tells whether a descriptor takes away what an element always is.
func fixed(d api.Desc) bool {
	return d.Configurable == api.No || d.Enumerable == api.No || d.Writable == api.No
}

// given is true, unless giving a value has ended otherwise.
func given(err error) (bool, error) { return err == nil, err }

// HasProperty tells whether an element is there: no prototype is asked for one.
func (m methods) HasProperty(h *heap.Heap, o int, k api.Key) (bool, error) {
	w, x, ok := m.element(h, o, k)
	if !ok {
		return m.Ordinary.HasProperty(h, o, k)
	}
	return w.there(h, x), nil
}

// Get is an element, or a property's value: no prototype is asked for an element.
func (m methods) Get(h *heap.Heap, o int, k api.Key, receiver api.Value) (api.Value, error) {
	w, x, ok := m.element(h, o, k)
	if !ok {
		return m.Ordinary.Get(h, o, k, receiver)
	}
	n, there := w.get(h, x)
	if !there {
		return value.Undefined(), nil
	}
	return value.Num(n), nil
}

// Set gives an element a value; with another receiver it is that one's turn, as far as there is an element.
func (m methods) Set(h *heap.Heap, o int, k api.Key, v, receiver api.Value) (bool, error) {
	w, x, ok := m.element(h, o, k)
	if ok && receiver == value.Ref(o) {
		return given(w.give(h, x, v))
	}
	if ok && !w.there(h, x) {
		return true, nil
	}
	return m.Ordinary.Set(h, o, k, v, receiver)
}

// Delete takes a property away; an element stays as long as its bytes do.
func (m methods) Delete(h *heap.Heap, o int, k api.Key) (bool, error) {
	w, x, ok := m.element(h, o, k)
	if !ok {
		return m.Ordinary.Delete(h, o, k)
	}
	return !w.there(h, x), nil
}

// OwnPropertyKeys is the keys of the elements, and of what lies there.
func (m methods) OwnPropertyKeys(h *heap.Heap, o int) ([]api.Key, error) {
	rest, err := m.Ordinary.OwnPropertyKeys(h, o)
	if err != nil {
		return nil, err
	}
	w, _ := viewOf(h, o)
	n := w.count(h)
	l := make([]api.Key, 0, n+len(rest))
	for i := range n {
		l = append(l, key.FromIndex(uint32(i)))
	}
	return append(l, rest...), nil
}
