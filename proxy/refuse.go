package proxy

import (
	"cameo/api"
	"cameo/heap"
)

// known is what a proxy has; else it refuses what is not there, then what is no proxy.
func known(h *heap.Heap, o int) (*parts, api.Errno) {
	if _, e := h.Class(o); e != api.OK {
		return nil, e
	}
	p, ok := partsOf(h, o)
	if !ok {
		return nil, api.ErrKind
	}
	return p, api.OK
}

// What throws, or goes on.

func typeError() error { return &api.Thrown{Kind: api.XType} }

// throwIf throws where something is wrong, unless there is no knowing, because it has thrown or stopped already.
func throwIf(wrong bool, err error) error {
	if err == nil && wrong {
		return typeError()
	}
	return err
}

// done is true, unless something has thrown, or stopped.
func done(err error) (bool, error) { return err == nil, err }
