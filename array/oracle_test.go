package array_test

// The layer read a second time, by other means, as ECMA-262 has it (10.4.2.1, 10.4.2.4): lengths are floats, indices are found by the library, and elements are looked for one by one in the shape; none of the package's functions is used.

import (
	"math"
	"slices"
	"strconv"

	"cameo/api"
	"cameo/array"
	"cameo/convert"
	"cameo/heap"
)

// twin is the methods of an array, by the second reading.
type twin struct{ heap.Ordinary }

// numbered is the number of a key that is an array index; -1 of any other one.
func numbered(k api.Key) float64 {
	n, err := strconv.ParseUint(k.Str, 10, 64)
	if k.Sym != 0 || err != nil || strconv.FormatUint(n, 10) != k.Str || n >= 1<<32-1 {
		return -1
	}
	return float64(n)
}

func (m twin) DefineOwnProperty(h *heap.Heap, o int, k api.Key, d api.Desc) (bool, error) {
	if k.Sym == 0 && k.Str == "length" {
		return m.setLength(h, o, d)
	}
	i := numbered(k)
	if i < 0 {
		return m.Ordinary.DefineOwnProperty(h, o, k, d)
	}
	s, _ := h.Shape(o)
	now := lying(s, str("length"))
	if i >= now.Value.Num && now.Writable == api.No {
		return false, nil
	}
	if ok, _ := m.Ordinary.DefineOwnProperty(h, o, k, d); !ok {
		return false, nil
	}
	if i >= now.Value.Num {
		now.Value = num(i + 1)
		m.Ordinary.DefineOwnProperty(h, o, str("length"), now)
	}
	return true, nil
}

func (m twin) setLength(h *heap.Heap, o int, d api.Desc) (bool, error) {
	if d.Value.Kind == api.KNone {
		return m.Ordinary.DefineOwnProperty(h, o, str("length"), d)
	}
	next := d
	n, err := twinLength(h, d.Value)
	if err != nil {
		return false, err
	}
	next.Value = num(n)
	s, _ := h.Shape(o)
	now := lying(s, str("length"))
	if n >= now.Value.Num {
		return m.Ordinary.DefineOwnProperty(h, o, str("length"), next)
	}
	if now.Writable == api.No {
		return false, nil
	}
	if d.Writable == api.No {
		next.Writable = api.Yes
	}
	if ok, _ := m.Ordinary.DefineOwnProperty(h, o, str("length"), next); !ok {
		return false, nil
	}
	for k := greatest(h, o, n); k != (api.Key{}); k = greatest(h, o, n) {
		if ok, _ := m.Ordinary.Delete(h, o, k); ok {
			continue
		}
		next.Value = num(numbered(k) + 1)
		next.Writable = d.Writable
		m.Ordinary.DefineOwnProperty(h, o, str("length"), next)
		return false, nil
	}
	if d.Writable == api.No {
		m.Ordinary.DefineOwnProperty(h, o, str("length"), api.Desc{Writable: api.No})
	}
	return true, nil
}

// twinLength is ToUint32, and ToNumber, and whether these are the same.
func twinLength(h *heap.Heap, v api.Value) (float64, error) {
	x, err := convert.Number(h, v)
	if err != nil {
		return 0, err
	}
	n := math.Mod(math.Trunc(x), 1<<32)
	switch {
	case n != n:
		n = 0
	case n < 0:
		n += 1 << 32
	}
	x, err = convert.Number(h, v)
	if err != nil {
		return 0, err
	}
	if n != x {
		return 0, rangeError()
	}
	return math.Abs(n), nil // a nought is +0
}

// greatest is the key of the element with the greatest number that is not below n; the zero one, if there is none.
func greatest(h *heap.Heap, o int, n float64) api.Key {
	s, _ := h.Shape(o)
	var found api.Key
	most := n
	for _, p := range s.Props {
		if i := numbered(p.Key); i >= most {
			found, most = p.Key, i
		}
	}
	return found
}

// reading is the layer, by the package or by the second reading.
type reading struct {
	sized  func(h *heap.Heap, proto api.Value, length int64) (int, error)
	of     func(h *heap.Heap, proto api.Value, l []api.Value) (int, error)
	length func(h *heap.Heap, o int) (uint32, api.Errno)
	values func(h *heap.Heap, o int, most int) ([]api.Value, api.Errno)
}

func byPackage() reading { return reading{array.New, array.Of, array.Length, array.Values} }

func byTwins() reading { return reading{twinNew, twinOf, twinAsk, twinValues} }

func twinNew(h *heap.Heap, proto api.Value, length int64) (int, error) {
	if wrong := h.Check(proto); wrong != api.OK {
		return 0, wrong
	}
	if proto.Kind != api.KNull && proto.Kind != api.KRef {
		return 0, api.ErrValue
	}
	if length < 0 {
		return 0, api.ErrRange
	}
	if length > 1<<32-1 {
		return 0, rangeError()
	}
	o, err := h.Add(api.CArray, proto, twin{}, nil)
	if err == nil {
		heap.Ordinary{}.DefineOwnProperty(h, o, str("length"), data(num(float64(length)), "w"))
	}
	return o, err
}

func twinOf(h *heap.Heap, proto api.Value, l []api.Value) (int, error) {
	o, err := twinNew(h, proto, 0)
	if err != nil {
		return 0, err
	}
	for i, v := range l {
		twin{}.DefineOwnProperty(h, o, at(i), data(v, "wec"))
	}
	return o, nil
}

func twinAsk(h *heap.Heap, o int) (uint32, api.Errno) {
	s, e := h.Shape(o)
	if e != api.OK {
		return 0, e
	}
	if s.Class != api.CArray {
		return 0, api.ErrKind
	}
	return uint32(lying(s, str("length")).Value.Num), api.OK
}

func twinValues(h *heap.Heap, o int, most int) ([]api.Value, api.Errno) {
	n, e := twinAsk(h, o)
	if e != api.OK {
		return nil, e
	}
	if most < 0 {
		return nil, api.ErrRange
	}
	most = min(most, int(n))
	if most > 65536 {
		return nil, api.ErrLong
	}
	s, _ := h.Shape(o)
	l := slices.Repeat([]api.Value{{}}, most)
	for _, p := range s.Props {
		if i := numbered(p.Key); i >= 0 && i < float64(most) {
			l[int(i)] = p.Desc.Value
		}
	}
	return l, api.OK
}
