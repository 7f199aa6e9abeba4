package integrity

import (
	"cameo/api"
	"cameo/heap"
)

// walk goes through an object's own keys, as long as it is told to go on; it tells whether it came to the end.
func walk(h *heap.Heap, o int, on func(k api.Key) (bool, error)) (bool, error) {
	keys, err := h.OwnPropertyKeys(o)
	if err != nil {
		return false, err
	}
	for _, k := range keys {
		if ok, err := on(k); !ok || err != nil {
			return false, err
		}
	}
	return true, nil
}

// properties is such a walk through what the keys have. A program may have taken one away since the keys were told.
func properties(h *heap.Heap, o int, on func(d api.Desc) bool) (bool, error) {
	return walk(h, o, func(k api.Key) (bool, error) {
		d, there, err := h.GetOwnProperty(o, k)
		if err != nil {
			return false, err
		}
		return !there || on(d), nil
	})
}

// shut prevents extensions, and then does something with each key.
func shut(h *heap.Heap, o int, do func(k api.Key) error) (bool, error) {
	if ok, err := h.PreventExtensions(o); !ok || err != nil {
		return false, err
	}
	return walk(h, o, func(k api.Key) (bool, error) {
		err := do(k)
		return err == nil, err
	})
}

// tight tells whether an object gets no new properties, and has none that is loose.
func tight(h *heap.Heap, o int, loose func(d api.Desc) bool) (bool, error) {
	if free, err := h.IsExtensible(o); free || err != nil {
		return false, err
	}
	return properties(h, o, func(d api.Desc) bool { return !loose(d) })
}

// define defines a property, or throws.
func define(h *heap.Heap, o int, k api.Key, d api.Desc) error {
	return done(h.DefineOwnProperty(o, k, d))
}

// done throws where something has answered that it was not done.
func done(ok bool, err error) error {
	if !ok && err == nil {
		return &api.Thrown{Kind: api.XType}
	}
	return err
}
