package mirror

import (
	"cameo/api"
	"cameo/array"
	"cameo/heap"
	"cameo/key"
	"cameo/records"
	"cameo/value"
)

// pick is what a walk has of an object's key; no value, if it passes over it.
type pick func(h *heap.Heap, o int, k api.Key) (api.Value, error)

// walk goes through an object's own keys in their order, and does something with what is picked of each, ahead of picking the next one.
func walk(h *heap.Heap, o int, of pick, do func(k api.Key, v api.Value) error) error {
	keys, err := h.OwnPropertyKeys(o)
	if err != nil {
		return err
	}
	return through(h, o, keys, of, do)
}

// through is a walk behind its keys having been told.
func through(h *heap.Heap, o int, keys []api.Key, of pick, do func(k api.Key, v api.Value) error) error {
	for _, k := range keys {
		v, err := of(h, o, k)
		if err == nil && v.Kind != api.KNone {
			err = do(k, v)
		}
		if err != nil {
			return err
		}
	}
	return nil
}

// list is an array of what is picked.
func list(h *heap.Heap, o int, of pick) (api.Value, error) {
	var l []api.Value
	err := walk(h, o, of, func(_ api.Key, v api.Value) error {
		l = append(l, v)
		return nil
	})
	if err != nil {
		return api.Value{}, err
	}
	return arrayOf(h, l...)
}

// itself is the key as a value. An object's keys are keys: key.Value has no error.
func itself(_ *heap.Heap, _ int, k api.Key) (api.Value, error) {
	v, _ := key.Value(k)
	return v, nil
}

// got is what the object answers when it is asked for the key.
func got(h *heap.Heap, o int, k api.Key) (api.Value, error) { return h.Get(o, k, value.Ref(o)) }

// entry is the key and what is got, as an array.
func entry(h *heap.Heap, o int, k api.Key) (api.Value, error) {
	v, err := got(h, o, k)
	if err != nil {
		return api.Value{}, err
	}
	name, _ := itself(h, o, k)
	return arrayOf(h, name, v)
}

// described is the property as an object. A program may have taken it away since the keys were told.
func described(h *heap.Heap, o int, k api.Key) (api.Value, error) {
	d, there, err := h.GetOwnProperty(o, k)
	if !there || err != nil {
		return api.Value{}, err
	}
	return ref(records.From(h, d, value.Null()))
}

// named picks of the keys that are strings alone.
func named(of pick) pick {
	return func(h *heap.Heap, o int, k api.Key) (api.Value, error) {
		if k.Sym != 0 {
			return api.Value{}, nil
		}
		return of(h, o, k)
	}
}

// symbolic picks of the keys that are symbols alone.
func symbolic(of pick) pick {
	return func(h *heap.Heap, o int, k api.Key) (api.Value, error) {
		if k.Sym == 0 {
			return api.Value{}, nil
		}
		return of(h, o, k)
	}
}

// shown picks of the keys alone whose property is there, and enumerable.
func shown(of pick) pick {
	return func(h *heap.Heap, o int, k api.Key) (api.Value, error) {
		d, there, err := h.GetOwnProperty(o, k)
		if !there || err != nil || d.Enumerable != api.Yes {
			return api.Value{}, err
		}
		return of(h, o, k)
	}
}

func arrayOf(h *heap.Heap, l ...api.Value) (api.Value, error) {
	return ref(array.Of(h, value.Null(), l))
}
