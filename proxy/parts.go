package proxy

import (
	"strings"

	"cameo/api"
	"cameo/heap"
	"cameo/key"
	"cameo/value"
)

// parts is what a proxy alone has: two objects, or null twice, once it is revoked.
type parts struct{ target, handler api.Value }

// partsOf is what a proxy has; false, if o is none.
func partsOf(h *heap.Heap, o int) (*parts, bool) {
	p, ok := h.Own(o).(*parts)
	return p, ok
}

// nameOf is a key as a trap is given it.
func nameOf(k api.Key) api.Value {
	v, _ := key.Value(k)
	return v
}

// same tells whether two values of the heap are the same.
func same(a, b api.Value) bool {
	ok, _ := value.Same(a, b)
	return ok
}

// anew is what a trap has answered, as it is handed out: its string may be one that was handed in, or that a function keeps.
func anew(v api.Value) api.Value {
	v.Str = strings.Clone(v.Str)
	return v
}
