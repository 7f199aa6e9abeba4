package bound

import (
	"cameo/api"
	"cameo/heap"
	"cameo/value"
)

// What the calls refuse ahead of anything being done: each of these is one reason. All of them may be asked of anything, so that they can be asked in a row, of which the first one counts.

func there(h *heap.Heap, o int) api.Errno {
	_, e := h.Class(o)
	return e
}

// known refuses the first value that is none of the heap.
func known(h *heap.Heap, l []api.Value) api.Errno {
	for _, v := range l {
		if e := h.Check(v); e != api.OK {
			return e
		}
	}
	return api.OK
}

func short(args []api.Value) api.Errno {
	if len(args) > api.MaxArgs {
		return api.ErrLong
	}
	return api.OK
}

func callable(h *heap.Heap, f int) api.Errno {
	if !h.Callable(value.Ref(f)) {
		return api.ErrKind
	}
	return api.OK
}
