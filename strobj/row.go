package strobj

import (
	"slices"

	"cameo/api"
	"cameo/heap"
	"cameo/key"
	"cameo/units"
	"cameo/value"
)

// row is what a String object alone has: its string, as a row of code units, of which one is found without going through those ahead of it. It never changes.
type row []uint16

// rowOf is the row of what is known to be a string. Units leaves room behind the end of what it tells: none of that is kept.
func rowOf(s string) row {
	l, _ := units.Units(s)
	return slices.Clone(l)
}

// own is the row of the String object o.
func own(h *heap.Heap, o int) (row, api.Errno) {
	if _, e := h.Class(o); e != api.OK {
		return nil, e
	}
	l, ok := h.Own(o).(row)
	if !ok {
		return nil, api.ErrKind
	}
	return l, api.OK
}

// property is the unit property of a key; false, if there is none. (A symbol's string is empty, and so no number.)
func (l row) property(k api.Key) (api.Desc, bool) {
	i, ok := key.Integer(k.Str)
	if !ok || i >= int64(len(l)) {
		return api.Desc{}, false
	}
	s := units.Of(l[i : i+1])
	return api.Desc{Value: value.Str(s), Writable: api.No, Enumerable: api.Yes, Configurable: api.No}, true
}
