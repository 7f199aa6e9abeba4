package ordinary

import (
	"cameo/api"
	"cameo/heap"
	"cameo/value"
)

// prototype is what lies there as an object's prototype, without entering anything.
func prototype(h *heap.Heap, o int) api.Value {
	v, _ := heap.Ordinary{}.GetPrototypeOf(h, o)
	return v
}

// behind is where a chain goes on behind one of its objects. What a proxy's prototype is nobody knows ahead of asking it: there it ends.
func behind(h *heap.Heap, o int) api.Value {
	if c, _ := h.Class(o); c == api.CProxy {
		return value.Null()
	}
	return prototype(h, o)
}
