package records

import (
	"strings"

	"cameo/api"
	"cameo/heap"
	"cameo/key"
)

// get is what an object has under a name, asked of itself.
func get(h *heap.Heap, o api.Value, name string) (api.Value, error) {
	return h.Get(o.Id, api.Key{Str: name}, o)
}

// members is what an object has under each index below its length, each one made something of, ahead of the next one being asked for.
func members[T any](h *heap.Heap, v api.Value, as func(api.Value) (T, error)) ([]T, error) {
	n, err := Length(h, v)
	if err != nil {
		return nil, err
	}
	if n > api.MaxArgs {
		return nil, api.ErrLong
	}
	l := make([]T, n)
	for i := range l {
		x, err := h.Get(v.Id, key.FromIndex(uint32(i)), v)
		if err != nil {
			return nil, err
		}
		if l[i], err = as(x); err != nil {
			return nil, err
		}
	}
	return l, nil
}

func asItself(v api.Value) (api.Value, error) { return anew(v), nil }

// asKey is a string or a symbol as a key. (key.Of would take other values, too.)
func asKey(v api.Value) (api.Key, error) {
	if v.Kind != api.KStr && v.Kind != api.KSym {
		return api.Key{}, typeError()
	}
	k, _ := key.Of(v)
	return k, nil
}

// anew is a value as it is handed out: its string may be one that an object keeps, or that was handed in.
func anew(v api.Value) api.Value {
	v.Str = strings.Clone(v.Str)
	return v
}

// open is data that anybody may change.
func open(v api.Value) api.Desc {
	return api.Desc{Value: v, Writable: api.Yes, Enumerable: api.Yes, Configurable: api.Yes}
}
