package namespace

import (
	"cameo/api"
	"cameo/heap"
	"cameo/key"
)

// exportable refuses names that cannot be the exports of one namespace: what is no string, has too many bytes, or stands twice.
func exportable(names []string) api.Errno {
	seen := make(map[string]struct{}, len(names))
	for _, s := range names {
		if e := key.Check(api.Key{Str: s}); e != api.OK {
			return e
		}
		if _, twice := seen[s]; twice {
			return api.ErrValue
		}
		seen[s] = struct{}{}
	}
	return api.OK
}

// known is what a namespace has; else it refuses what is not there, then what is no namespace.
func known(h *heap.Heap, o int) (*exports, api.Errno) {
	if _, e := h.Class(o); e != api.OK {
		return nil, e
	}
	x, ok := exportsOf(h, o)
	if !ok {
		return nil, api.ErrKind
	}
	return x, api.OK
}

func referenceError() error { return &api.Thrown{Kind: api.XReference} }
