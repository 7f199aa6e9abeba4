package iterate

import (
	"cameo/api"
	"cameo/convert"
	"cameo/heap"
	"cameo/value"
)

// result is a new object that an iterator answers; nothing is entered.
func result(h *heap.Heap, v api.Value, done bool) (int, error) {
	r, err := h.Make(value.Null())
	if err != nil {
		return 0, err
	}
	heap.Ordinary{}.DefineOwnProperty(h, r, api.Key{Str: "value"}, open(v))
	heap.Ordinary{}.DefineOwnProperty(h, r, api.Key{Str: "done"}, open(value.Bool(done)))
	return r, nil
}

// iteratorOf is what an object's own method makes to go through it.
func iteratorOf(h *heap.Heap, v api.Value) (api.Iterator, error) {
	f, err := convert.Method(h, v, api.Key{Sym: api.SymIterator})
	if err != nil {
		return api.Iterator{}, err
	}
	if f.Kind == api.KUndefined {
		return api.Iterator{}, typeError()
	}
	o, err := answer(h, f, v)
	if err != nil {
		return api.Iterator{}, err
	}
	next, err := get(h, o, "next")
	if err != nil {
		return api.Iterator{}, err
	}
	return api.Iterator{Object: o.Id, Next: anew(next)}, nil
}

// step asks an iterator for its next value; true: there is none.
func step(h *heap.Heap, it api.Iterator) (api.Value, bool, error) {
	if !h.Callable(it.Next) {
		return api.Value{}, false, typeError()
	}
	r, err := answer(h, it.Next, value.Ref(it.Object))
	if err != nil {
		return api.Value{}, false, err
	}
	done, err := get(h, r, "done")
	if err != nil {
		return api.Value{}, false, err
	}
	if over, _ := value.Truth(done); over {
		return api.Value{}, true, nil
	}
	v, err := get(h, r, "value")
	return anew(v), false, err
}

// through gives each value of an object's iterator to a function, until there is none. If the function has had enough, or ends otherwise, the iterator is closed; it is not, if it is the iterator itself that ends otherwise.
func through(h *heap.Heap, v api.Value, do func(api.Value) (bool, error)) error {
	it, err := iteratorOf(h, v)
	if err != nil {
		return err
	}
	for {
		x, over, err := step(h, it)
		if over || err != nil {
			return err
		}
		if on, err := do(x); !on || err != nil {
			return closed(h, it, err)
		}
	}
}

// closed is what comes of leaving a loop for a cause, its iterator having been closed. What stops leaves no time for that; what was thrown in the loop outweighs what is thrown now.
func closed(h *heap.Heap, it api.Iterator, cause error) error {
	switch cause.(type) {
	case api.Errno:
		return cause
	case *api.Thrown:
		if err := release(h, it); stops(err) {
			return err
		}
		return cause
	}
	return release(h, it)
}

// release calls the method by which an iterator wants to be told that it is not asked any more.
func release(h *heap.Heap, it api.Iterator) error {
	o := value.Ref(it.Object)
	f, err := convert.Method(h, o, api.Key{Str: "return"})
	if err != nil || f.Kind == api.KUndefined {
		return err
	}
	_, err = answer(h, f, o)
	return err
}

// stops tells what ends everything from what was merely thrown.
func stops(err error) bool {
	switch err.(type) {
	case api.Errno:
		return true
	}
	return false
}

// answer is the object that a function answers, which is called without arguments.
func answer(h *heap.Heap, f, this api.Value) (api.Value, error) {
	v, err := h.Call(f.Id, this, nil)
	if err != nil {
		return api.Value{}, err
	}
	if v.Kind != api.KRef {
		return api.Value{}, typeError()
	}
	return v, nil
}

// get is what an object has under a name, asked of itself.
func get(h *heap.Heap, o api.Value, name string) (api.Value, error) {
	return h.Get(o.Id, api.Key{Str: name}, o)
}
