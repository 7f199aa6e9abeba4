package iterate

import (
	"strings"

	"cameo/api"
	"cameo/heap"
	"cameo/value"
)

// What the calls refuse: each of these is one reason. All of them may be asked of anything, so that they can be asked in a row, of which the first one counts.

// protoKind refuses what can be no prototype.
func protoKind(v api.Value) api.Errno {
	if v.Kind != api.KNull && v.Kind != api.KRef {
		return api.ErrValue
	}
	return api.OK
}

func isKind(kind int) api.Errno {
	switch kind {
	case api.IKeys, api.IValues, api.IEntries:
		return api.OK
	}
	return api.ErrRange
}

func there(h *heap.Heap, o int) api.Errno {
	_, e := h.Class(o)
	return e
}

func callable(h *heap.Heap, f api.Value) api.Errno {
	if !h.Callable(f) {
		return api.ErrKind
	}
	return api.OK
}

func typeError() error { return &api.Thrown{Kind: api.XType} }

// What is handed out, and what is laid.

// ref is an object as a value; beside an error there is no object, and no value.
func ref(o int, err error) (api.Value, error) { return value.Ref(o), err }

// anew is a value as it is handed out: its string is new memory.
func anew(v api.Value) api.Value {
	v.Str = strings.Clone(v.Str)
	return v
}

// open is data that anybody may change.
func open(v api.Value) api.Desc {
	return api.Desc{Value: v, Writable: api.Yes, Enumerable: api.Yes, Configurable: api.Yes}
}
