package heap

import (
	"cameo/api"
	"cameo/value"
)

// What is refused ahead of anything being done: each of these is one reason. All of them may be asked of anything, so that they can be asked in a row, of which the first one counts.

func (h *Heap) there(o int) api.Errno {
	if !h.has(o) {
		return api.ErrRef
	}
	return api.OK
}

func sound(l ...api.Value) api.Errno {
	for _, v := range l {
		if e := value.Check(v); e != api.OK {
			return e
		}
	}
	return api.OK
}

// known refuses objects that the heap has not; no value is no object.
func (h *Heap) known(l ...api.Value) api.Errno {
	for _, v := range l {
		if v.Kind == api.KRef && !h.has(v.Id) {
			return api.ErrRef
		}
	}
	return api.OK
}

// protoKind refuses what can be no prototype.
func protoKind(v api.Value) api.Errno {
	if v.Kind != api.KNull && v.Kind != api.KRef {
		return api.ErrValue
	}
	return api.OK
}

func (h *Heap) room() api.Errno {
	if h.Len() >= h.capacity {
		return api.ErrFull
	}
	return api.OK
}

// accessors refuses a getter or setter that is an object and cannot be called.
func (h *Heap) accessors(l ...api.Value) api.Errno {
	for _, v := range l {
		if v.Kind == api.KRef && h.callable(v.Id) != api.OK {
			return api.ErrKind
		}
	}
	return api.OK
}

func short(args []api.Value) api.Errno {
	if len(args) > api.MaxArgs {
		return api.ErrLong
	}
	return api.OK
}

func (h *Heap) callable(f int) api.Errno {
	_, e := h.caller(f)
	return e
}

func (h *Heap) constructor(f int) api.Errno {
	_, e := h.builder(f)
	return e
}

// caller is the object f as what can be called.
func (h *Heap) caller(f int) (Caller, api.Errno) {
	if h.has(f) {
		if c, ok := h.at(f).methods.(Caller); ok {
			return c, api.OK
		}
	}
	return nil, api.ErrKind
}

// builder is the object f as what can be constructed.
func (h *Heap) builder(f int) (Builder, api.Errno) {
	if h.has(f) {
		if b, ok := h.at(f).methods.(Builder); ok {
			return b, api.OK
		}
	}
	return nil, api.ErrKind
}
