package ordinary

import (
	"cmp"

	"cameo/api"
	"cameo/desc"
	"cameo/heap"
	"cameo/key"
)

// What New refuses: each of these is one reason, asked of all properties ahead of the next one.

// protoKind refuses what can be no prototype.
func protoKind(v api.Value) api.Errno {
	if v.Kind != api.KNull && v.Kind != api.KRef {
		return api.ErrValue
	}
	return api.OK
}

func wellFormed(props []api.Prop) api.Errno {
	for _, p := range props {
		if e := cmp.Or(key.Check(p.Key), desc.Check(p.Desc)); e != api.OK {
			return e
		}
	}
	return api.OK
}

// known refuses objects that the heap has not; no value is no object.
func known(h *heap.Heap, props []api.Prop) api.Errno {
	for _, p := range props {
		for _, v := range []api.Value{p.Desc.Value, p.Desc.Get, p.Desc.Set} {
			if v.Kind == api.KRef && h.Check(v) != api.OK {
				return api.ErrRef
			}
		}
	}
	return api.OK
}

// callable refuses a getter or setter that is an object and cannot be called.
func callable(h *heap.Heap, props []api.Prop) api.Errno {
	for _, p := range props {
		for _, v := range []api.Value{p.Desc.Get, p.Desc.Set} {
			if v.Kind == api.KRef && !h.Callable(v) {
				return api.ErrKind
			}
		}
	}
	return api.OK
}
