package args

import (
	"cameo/api"
	"cameo/heap"
	"cameo/key"
	"cameo/value"
)

// unmapped is the methods of an arguments object that is tied to nothing: the ordinary ones.
type unmapped struct{ heap.Ordinary }

// lay defines a property ordinarily, nothing being entered. It is never refused: the object has just been made, or the property can be written.
func (m unmapped) lay(h *heap.Heap, o int, k api.Key, d api.Desc) { m.DefineOwnProperty(h, o, k, d) }

// fill lays the properties of a new arguments object there.
func (m unmapped) fill(h *heap.Heap, o int, l []api.Value, callee api.Desc) {
	for i, v := range l {
		m.lay(h, o, key.FromIndex(uint32(i)), api.Desc{Value: v, Writable: api.Yes, Enumerable: api.Yes, Configurable: api.Yes})
	}
	m.lay(h, o, api.Key{Str: "length"}, hidden(value.Num(float64(len(l)))))
	m.lay(h, o, api.Key{Str: "callee"}, callee)
}

// hidden is data that is not enumerable.
func hidden(v api.Value) api.Desc {
	return api.Desc{Value: v, Writable: api.Yes, Enumerable: api.No, Configurable: api.Yes}
}

// poisoned is an accessor by which nobody learns or says anything.
func poisoned(thrower api.Value) api.Desc {
	return api.Desc{Get: thrower, Set: thrower, Enumerable: api.No, Configurable: api.No}
}

// mapped is the methods of an arguments object that has parameters. What lies under an index that is tied has the parameter's value at every moment (give sees to that), so that all that tells what lies there, GetOwnProperty and the shape, tells that value by itself.
type mapped struct{ unmapped }

// tie is the parameters of an object that has such methods, and where among them the one stands to which a key is tied; false, if it is tied to none.
func (mapped) tie(h *heap.Heap, o int, k api.Key) (*parameters, int, bool) {
	p, _ := parametersOf(h, o)
	n, ok := p.tied(k)
	return p, n, ok
}

// DefineOwnProperty defines ordinarily, and then the parameter goes along. (A definition as read-only without a Value keeps the one that lies there, which is the parameter's.)
func (m mapped) DefineOwnProperty(h *heap.Heap, o int, k api.Key, d api.Desc) (bool, error) {
	p, n, tied := m.tie(h, o, k)
	ok, err := m.unmapped.DefineOwnProperty(h, o, k, d)
	if !ok || err != nil {
		return false, err
	}
	if tied {
		p.follow(n, d)
	}
	return true, nil
}

// Get is a parameter's value, or a property's.
func (m mapped) Get(h *heap.Heap, o int, k api.Key, receiver api.Value) (api.Value, error) {
	if p, n, tied := m.tie(h, o, k); tied {
		return p.list[n].value, nil
	}
	return m.unmapped.Get(h, o, k, receiver)
}

// Set gives the parameter its value ahead of anything being entered, where fuel may end.
func (m mapped) Set(h *heap.Heap, o int, k api.Key, v, receiver api.Value) (bool, error) {
	if p, n, tied := m.tie(h, o, k); tied && receiver == value.Ref(o) {
		p.give(h, o, n, v)
	}
	return m.unmapped.Set(h, o, k, v, receiver)
}

// Delete takes a property away, and its tie with it.
func (m mapped) Delete(h *heap.Heap, o int, k api.Key) (bool, error) {
	p, n, tied := m.tie(h, o, k)
	ok, err := m.unmapped.Delete(h, o, k)
	if !ok || err != nil {
		return false, err
	}
	if tied {
		p.loosen(n)
	}
	return true, nil
}
