package call

import (
	"cameo/api"
	"cameo/heap"
)

// What New refuses: each of these is one reason, asked of the whole body ahead of the next one.

// protoKind refuses what can be no prototype.
func protoKind(v api.Value) api.Errno {
	if v.Kind != api.KNull && v.Kind != api.KRef {
		return api.ErrValue
	}
	return api.OK
}

func short(body []api.Op) api.Errno {
	if len(body) > api.MaxOps {
		return api.ErrLong
	}
	return api.OK
}

func wellFormed(body []api.Op) api.Errno {
	if !Sound(body) {
		return api.ErrValue
	}
	return api.OK
}

// known refuses objects that the heap has not.
func known(h *heap.Heap, body []api.Op) api.Errno {
	for _, op := range body {
		for _, v := range named(op) {
			if v.Kind == api.KRef && h.Check(v) != api.OK {
				return api.ErrRef
			}
		}
	}
	return api.OK
}

// named is the values that an operation brings with it.
func named(op api.Op) []api.Value {
	switch op.Code {
	case api.OConst:
		return []api.Value{op.Val}
	case api.ODefine:
		return []api.Value{op.Desc.Value, op.Desc.Get, op.Desc.Set}
	}
	return nil
}

// callable refuses a getter or setter that is an object and cannot be called.
func callable(h *heap.Heap, body []api.Op) api.Errno {
	for _, op := range body {
		if op.Code == api.ODefine && (dumb(h, op.Desc.Get) || dumb(h, op.Desc.Set)) {
			return api.ErrKind
		}
	}
	return api.OK
}

func dumb(h *heap.Heap, v api.Value) bool { return v.Kind == api.KRef && !h.Callable(v) }
