package integrity

import (
	"strings"

	"cameo/api"
	"cameo/heap"
)

// known refuses what is no level.
func known(level int) api.Errno {
	if level != api.LShut && level != api.LSealed && level != api.LFrozen {
		return api.ErrRange
	}
	return api.OK
}

// fixTo makes an object as fixed as a level that is known says.
func fixTo(h *heap.Heap, o, level int) (bool, error) {
	switch level {
	case api.LSealed:
		return Seal(h, o)
	case api.LFrozen:
		return Freeze(h, o)
	}
	return h.PreventExtensions(o)
}

// fixedTo tells whether an object is as fixed as a level that is known says.
func fixedTo(h *heap.Heap, o, level int) (bool, error) {
	switch level {
	case api.LSealed:
		return IsSealed(h, o)
	case api.LFrozen:
		return IsFrozen(h, o)
	}
	free, err := h.IsExtensible(o)
	return !free && err == nil, err
}

// anew is a value as it is handed out: its string may be the caller's.
func anew(v api.Value) api.Value {
	v.Str = strings.Clone(v.Str)
	return v
}
