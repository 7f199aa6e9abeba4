package array

import (
	"cameo/api"
	"cameo/heap"
)

// What the calls refuse: each of these is one reason. All of them may be asked of anything, so that they can be asked in a row, of which the first one counts.

// protoKind refuses what can be no prototype.
func protoKind(v api.Value) api.Errno {
	if v.Kind != api.KNull && v.Kind != api.KRef {
		return api.ErrValue
	}
	return api.OK
}

func notBelow(n int64) api.Errno {
	if n < 0 {
		return api.ErrRange
	}
	return api.OK
}

// known refuses what is no value of the heap.
func known(h *heap.Heap, l []api.Value) api.Errno {
	for _, v := range l {
		if e := h.Check(v); e != api.OK {
			return e
		}
	}
	return api.OK
}

func isArray(h *heap.Heap, o int) api.Errno {
	class, e := h.Class(o)
	if e == api.OK && class != api.CArray {
		return api.ErrKind
	}
	return e
}

func rangeError() error { return &api.Thrown{Kind: api.XRange} }
