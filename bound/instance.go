package bound

import (
	"cameo/api"
	"cameo/convert"
	"cameo/heap"
	"cameo/value"
)

// instanceOf leaves it to c's own method, if it has one, whether v is an instance of it.
func instanceOf(h *heap.Heap, v, c api.Value) (bool, error) {
	f, err := convert.Method(h, c, api.Key{Sym: api.SymHasInstance})
	switch {
	case err != nil:
		return false, err
	case f.Kind != api.KUndefined:
		return truth(h.Call(f.Id, c, []api.Value{v}))
	case !h.Callable(c):
		return false, typeError()
	}
	return hasInstance(h, c, v)
}

// hasInstance tells whether v has c's prototype among its own ones; a bound function's target stands for it. (A target is always older than what is bound to it: that ends.)
func hasInstance(h *heap.Heap, c, v api.Value) (bool, error) {
	if !h.Callable(c) {
		return false, nil
	}
	if b, ok := bindingOf(h, c.Id); ok {
		return instanceOf(h, v, value.Ref(b.target))
	}
	if v.Kind != api.KRef {
		return false, nil
	}
	proto, err := get(h, c, "prototype")
	switch {
	case err != nil:
		return false, err
	case proto.Kind != api.KRef:
		return false, typeError()
	}
	return descends(h, v.Id, proto.Id)
}

// descends tells whether one comes from the object o to another one, asking each for its prototype.
func descends(h *heap.Heap, o, from int) (bool, error) {
	for {
		v, err := h.GetPrototypeOf(o)
		if err != nil || v.Kind != api.KRef {
			return false, err
		}
		if v.Id == from {
			return true, nil
		}
		o = v.Id
	}
}

// truth is whether an answer is truthy.
func truth(v api.Value, err error) (bool, error) {
	if err != nil {
		return false, err
	}
	ok, _ := value.Truth(v)
	return ok, nil
}

func typeError() error { return &api.Thrown{Kind: api.XType} }
