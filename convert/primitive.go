package convert

import (
	"cameo/api"
	"cameo/heap"
	"cameo/value"
)

// known refuses what is no hint.
func known(hint int) api.Errno {
	switch hint {
	case api.HintDefault, api.HintString, api.HintNumber:
		return api.OK
	}
	return api.ErrRange
}

// method is what a value has under a key, to be called; undefined, if it has nothing there.
func method(h *heap.Heap, v api.Value, k api.Key) (api.Value, error) {
	if v.Kind != api.KRef {
		return api.Value{}, typeError()
	}
	f, err := h.Get(v.Id, k, v)
	switch {
	case err != nil:
		return api.Value{}, err
	case f.Kind == api.KUndefined || f.Kind == api.KNull:
		return value.Undefined(), nil
	case !h.Callable(f):
		return api.Value{}, typeError()
	}
	return f, nil
}

// primitive is a value that is no object: the value itself, or what the object is turned into.
func primitive(h *heap.Heap, v api.Value, hint int) (api.Value, error) {
	if v.Kind != api.KRef {
		return v, nil
	}
	f, err := method(h, v, api.Key{Sym: api.SymToPrimitive})
	switch {
	case err != nil:
		return api.Value{}, err
	case f.Kind == api.KUndefined:
		return byNames(h, v, names(hint))
	}
	p, err := h.Call(f.Id, v, []api.Value{value.Str(word(hint))})
	switch {
	case err != nil:
		return api.Value{}, err
	case p.Kind == api.KRef:
		return api.Value{}, typeError()
	}
	return p, nil
}

// word is what an object's own method is told of a hint.
func word(hint int) string {
	switch hint {
	case api.HintString:
		return "string"
	case api.HintNumber:
		return "number"
	}
	return "default"
}

// names is what an object without such a method is asked for, in order.
func names(hint int) [2]string {
	if hint == api.HintString {
		return [2]string{"toString", "valueOf"}
	}
	return [2]string{"valueOf", "toString"}
}

// byNames is what the first function answers that answers no object.
func byNames(h *heap.Heap, v api.Value, names [2]string) (api.Value, error) {
	for _, s := range names {
		f, err := h.Get(v.Id, api.Key{Str: s}, v)
		if err != nil {
			return api.Value{}, err
		}
		if !h.Callable(f) {
			continue
		}
		p, err := h.Call(f.Id, v, nil)
		if err != nil {
			return api.Value{}, err
		}
		if p.Kind != api.KRef {
			return p, nil
		}
	}
	return api.Value{}, typeError()
}
