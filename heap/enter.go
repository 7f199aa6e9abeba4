package heap

import "cameo/api"

// The thirteen, as algorithms enter them: what they are given is of the heap, because it was when the algorithm began. Two of them other layers' methods enter, too, which may have more arguments to hand on than the door lets in.

// enter spends the fuel for one method of an object, and goes one deeper until leave; what comes of the object is what it does.
func (h *Heap) enter(o int) (Methods, api.Errno) {
	if h.fuel == 0 {
		return nil, api.ErrFuel
	}
	h.fuel--
	if h.entered == h.depth {
		return nil, api.ErrDepth
	}
	h.entered++
	return h.at(o).methods, api.OK
}

func (h *Heap) leave() { h.entered-- }

func (h *Heap) enterGetPrototypeOf(o int) (api.Value, error) {
	m, e := h.enter(o)
	if e != api.OK {
		return api.Value{}, e
	}
	defer h.leave()
	return m.GetPrototypeOf(h, o)
}

func (h *Heap) enterSetPrototypeOf(o int, v api.Value) (bool, error) {
	m, e := h.enter(o)
	if e != api.OK {
		return false, e
	}
	defer h.leave()
	return m.SetPrototypeOf(h, o, v)
}

func (h *Heap) enterIsExtensible(o int) (bool, error) {
	m, e := h.enter(o)
	if e != api.OK {
		return false, e
	}
	defer h.leave()
	return m.IsExtensible(h, o)
}

func (h *Heap) enterPreventExtensions(o int) (bool, error) {
	m, e := h.enter(o)
	if e != api.OK {
		return false, e
	}
	defer h.leave()
	return m.PreventExtensions(h, o)
}

func (h *Heap) enterGetOwnProperty(o int, k api.Key) (api.Desc, bool, error) {
	m, e := h.enter(o)
	if e != api.OK {
		return api.Desc{}, false, e
	}
	defer h.leave()
	return m.GetOwnProperty(h, o, k)
}

func (h *Heap) enterDefineOwnProperty(o int, k api.Key, d api.Desc) (bool, error) {
	m, e := h.enter(o)
	if e != api.OK {
		return false, e
	}
	defer h.leave()
	return m.DefineOwnProperty(h, o, k, d)
}

func (h *Heap) enterHasProperty(o int, k api.Key) (bool, error) {
	m, e := h.enter(o)
	if e != api.OK {
		return false, e
	}
	defer h.leave()
	return m.HasProperty(h, o, k)
}

func (h *Heap) enterGet(o int, k api.Key, receiver api.Value) (api.Value, error) {
	m, e := h.enter(o)
	if e != api.OK {
		return api.Value{}, e
	}
	defer h.leave()
	return m.Get(h, o, k, receiver)
}

func (h *Heap) enterSet(o int, k api.Key, v, receiver api.Value) (bool, error) {
	m, e := h.enter(o)
	if e != api.OK {
		return false, e
	}
	defer h.leave()
	return m.Set(h, o, k, v, receiver)
}

func (h *Heap) enterDelete(o int, k api.Key) (bool, error) {
	m, e := h.enter(o)
	if e != api.OK {
		return false, e
	}
	defer h.leave()
	return m.Delete(h, o, k)
}

func (h *Heap) enterOwnPropertyKeys(o int) ([]api.Key, error) {
	m, e := h.enter(o)
	if e != api.OK {
		return nil, e
	}
	defer h.leave()
	return m.OwnPropertyKeys(h, o)
}

// EnterCall enters Call of what can be called, and refuses all else, ahead of entering it.
func (h *Heap) EnterCall(f int, this api.Value, args []api.Value) (api.Value, error) {
	c, e := h.caller(f)
	if e != api.OK {
		return api.Value{}, e
	}
	if _, e := h.enter(f); e != api.OK {
		return api.Value{}, e
	}
	defer h.leave()
	return c.Call(h, f, this, args)
}

// EnterConstruct enters Construct of what can be constructed, and refuses all else, ahead of entering it.
func (h *Heap) EnterConstruct(f int, args []api.Value, target int) (int, error) {
	b, e := h.builder(f)
	if e != api.OK {
		return 0, e
	}
	if _, e := h.enter(f); e != api.OK {
		return 0, e
	}
	defer h.leave()
	return b.Construct(h, f, args, target)
}
