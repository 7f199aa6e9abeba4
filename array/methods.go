package array

import (
	"slices"

	"cameo/api"
	"cameo/convert"
	"cameo/heap"
	"cameo/key"
	"cameo/value"
)

// methods is the methods of an array: the ordinary ones, of which one is turned. What it takes from them enters nothing.
type methods struct{ heap.Ordinary }

func lengthKey() api.Key { return api.Key{Str: "length"} }

// length is an array's length, and whether it can be written.
func (m methods) length(h *heap.Heap, o int) (uint32, bool) {
	d, _, _ := m.GetOwnProperty(h, o, lengthKey())
	return uint32(d.Value.Num), d.Writable == api.Yes
}

// lay defines a property ordinarily, where that is never refused: it is new and the array extensible, or it can be written.
func (m methods) lay(h *heap.Heap, o int, k api.Key, d api.Desc) {
	m.Ordinary.DefineOwnProperty(h, o, k, d)
}

// DefineOwnProperty defines a property, and keeps the length greater than the number of each element.
func (m methods) DefineOwnProperty(h *heap.Heap, o int, k api.Key, d api.Desc) (bool, error) {
	if k == lengthKey() {
		return m.defineLength(h, o, d)
	}
	if i, ok := key.Index(k.Str); ok {
		return m.defineElement(h, o, i, d)
	}
	return m.Ordinary.DefineOwnProperty(h, o, k, d)
}

// defineElement defines an element, which the length moves behind.
func (m methods) defineElement(h *heap.Heap, o int, i uint32, d api.Desc) (bool, error) {
	n, writable := m.length(h, o)
	if i >= n && !writable {
		return false, nil
	}
	ok, err := m.Ordinary.DefineOwnProperty(h, o, key.FromIndex(i), d)
	if !ok || err != nil {
		return false, err
	}
	if i >= n {
		m.lay(h, o, lengthKey(), api.Desc{Value: value.Num(float64(i + 1))})
	}
	return true, nil
}

// defineLength defines the length, which may take elements away.
func (m methods) defineLength(h *heap.Heap, o int, d api.Desc) (bool, error) {
	if d.Value.Kind == api.KNone {
		return m.Ordinary.DefineOwnProperty(h, o, lengthKey(), d)
	}
	n, err := asLength(h, d.Value)
	if err != nil {
		return false, err
	}
	d.Value = value.Num(float64(n))
	was, writable := m.length(h, o) // now: what was asked may have made it another one
	if n >= was {
		return m.Ordinary.DefineOwnProperty(h, o, lengthKey(), d)
	}
	if !writable {
		return false, nil
	}
	return m.shorten(h, o, n, d)
}

// asLength is the length that a value stands for. An object is asked twice.
func asLength(h *heap.Heap, v api.Value) (uint32, error) {
	n, err := convert.Uint32(h, v)
	if err != nil {
		return 0, err
	}
	x, err := convert.Number(h, v)
	if err != nil {
		return 0, err
	}
	if float64(n) != x {
		return 0, rangeError()
	}
	return n, nil
}

// shorten defines the length as n, which is less than it was, and takes away what lies behind. The length can be written until that is done: it moves up again to where an element stays.
func (m methods) shorten(h *heap.Heap, o int, n uint32, d api.Desc) (bool, error) {
	last := d.Writable
	if last == api.No {
		d.Writable = api.Yes
	}
	ok, err := m.Ordinary.DefineOwnProperty(h, o, lengthKey(), d)
	if !ok || err != nil {
		return false, err
	}
	end := m.cut(h, o, n)
	m.lay(h, o, lengthKey(), api.Desc{Value: value.Num(float64(end)), Writable: last})
	return end == n, nil
}

// cut takes the elements away whose numbers are not below n, from the greatest down, until one stays: the least length that what is left may have.
func (m methods) cut(h *heap.Heap, o int, n uint32) uint32 {
	keys, _ := m.OwnPropertyKeys(h, o) // elements stand first, by their numbers
	for _, k := range slices.Backward(keys) {
		i, ok := key.Index(k.Str)
		if !ok || i < n {
			continue
		}
		if gone, _ := m.Delete(h, o, k); !gone {
			return i + 1
		}
	}
	return n
}
