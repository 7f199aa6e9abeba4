package args

import (
	"cameo/api"
	"cameo/heap"
	"cameo/key"
	"cameo/value"
)

// What Mapped and Unmapped refuse: each of these is one reason. All of them may be asked of anything, so that they can be asked in a row, of which the first one counts.

// protoKind refuses what can be no prototype.
func protoKind(v api.Value) api.Errno {
	if v.Kind != api.KNull && v.Kind != api.KRef {
		return api.ErrValue
	}
	return api.OK
}

func short[T any](l []T) api.Errno {
	if len(l) > api.MaxArgs {
		return api.ErrLong
	}
	return api.OK
}

func sound(l ...api.Value) api.Errno {
	for _, v := range l {
		if e := value.Check(v); e != api.OK {
			return e
		}
	}
	return api.OK
}

// texts refuses names that are no strings: what may be a name may be a key.
func texts(names []string) api.Errno {
	for _, s := range names {
		if e := key.Check(api.Key{Str: s}); e != api.OK {
			return e
		}
	}
	return api.OK
}

// known refuses objects that the heap has not. What it is asked of is not looked through once more.
func known(h *heap.Heap, l ...api.Value) api.Errno {
	for _, v := range l {
		if v.Kind == api.KRef && h.Check(v) != api.OK {
			return api.ErrRef
		}
	}
	return api.OK
}

// callable refuses what can be no thrower.
func callable(h *heap.Heap, v api.Value) api.Errno {
	if v.Kind != api.KUndefined && !h.Callable(v) {
		return api.ErrKind
	}
	return api.OK
}
