package strobj

import (
	"cameo/api"
	"cameo/desc"
	"cameo/heap"
	"cameo/key"
	"cameo/value"
)

// methods is the methods of a String object: the ordinary ones, of which three are turned. What the others call its own property is what GetOwnProperty tells here, so that units are read, found, and never set or deleted, by them.
type methods struct{ heap.Ordinary }

// lay gives a new String object its length.
func (m methods) lay(h *heap.Heap, o, length int) {
	d := api.Desc{Value: value.Num(float64(length)), Writable: api.No, Enumerable: api.No, Configurable: api.No}
	m.Ordinary.DefineOwnProperty(h, o, api.Key{Str: "length"}, d)
}

// unit is the unit property of a key; false, if there is none.
func (methods) unit(h *heap.Heap, o int, k api.Key) (api.Desc, bool) {
	l, _ := own(h, o)
	return l.property(k)
}

// GetOwnProperty is what lies there, or a unit.
func (m methods) GetOwnProperty(h *heap.Heap, o int, k api.Key) (api.Desc, bool, error) {
	d, ok, err := m.Ordinary.GetOwnProperty(h, o, k)
	if ok || err != nil {
		return d, ok, err
	}
	d, ok = m.unit(h, o, k)
	return d, ok, nil
}

// DefineOwnProperty defines what is no unit; a unit stays as it is, and may be defined as just that.
func (m methods) DefineOwnProperty(h *heap.Heap, o int, k api.Key, d api.Desc) (bool, error) {
	now, ok := m.unit(h, o, k)
	if !ok {
		return m.Ordinary.DefineOwnProperty(h, o, k, d)
	}
	extensible, err := m.IsExtensible(h, o)
	if err != nil {
		return false, err
	}
	_, same, _ := desc.Apply(extensible, now, d) // both are known to be well formed
	return same, nil
}

// OwnPropertyKeys is the keys of the units, and of what lies there.
func (m methods) OwnPropertyKeys(h *heap.Heap, o int) ([]api.Key, error) {
	rest, err := m.Ordinary.OwnPropertyKeys(h, o)
	if err != nil {
		return nil, err
	}
	l, _ := own(h, o)
	keys := make([]api.Key, 0, len(l)+len(rest))
	for i := range l {
		keys = append(keys, key.FromIndex(uint32(i)))
	}
	return append(keys, rest...), nil
}
