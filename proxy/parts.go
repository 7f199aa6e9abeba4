package proxy

import (
	"strings"

	"cameo/api"
	"cameo/heap"
	"cameo/key"
	"cameo/value"
)

// parts is what a proxy alone has: two objects, or null twice, once it is revoked.
type parts struct{ target, handler api.Value }

// partsOf is what a proxy has; false, if o is none.
func partsOf(h *heap.Heap, o int) (*parts, bool) {
	p, ok := h.Own(o).(*parts)
	return p, ok
}

// known is what a proxy has, or why there is nothing such.
func known(h *heap.Heap, o int) (*parts, api.Errno) {
	if _, e := h.Class(o); e != api.OK {
		return nil, e
	}
	p, ok := partsOf(h, o)
	if !ok {
		return nil, api.ErrKind
	}
	return p, api.OK
}

// nameOf is a key as a trap is given it.
func nameOf(k api.Key) api.Value {
	v, _ := key.Value(k)
	return v
}

// same tells whether two values of the heap are the same.
func same(a, b api.Value) bool {
	ok, _ := value.Same(a, b)
	return ok
}

// anew is what a trap has answered, as it is handed out: its string may be one that was handed in, or that a function keeps.
func anew(v api.Value) api.Value {
	v.Str = strings.Clone(v.Str)
	return v
}

func typeError() error { return &api.Thrown{Kind: api.XType} }

// throwIf throws where something is wrong, unless there is no knowing, because it has thrown or stopped already.
func throwIf(wrong bool, err error) error {
	if err == nil && wrong {
		return typeError()
	}
	return err
}

// done is true, unless something was thrown, or stopped.
func done(err error) (bool, error) { return err == nil, err }
