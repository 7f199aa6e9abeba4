package heap

import (
	"cmp"

	"cameo/api"
	"cameo/desc"
	"cameo/key"
)

// The thirteen internal methods, as they are called from outside: what is refused ahead of being entered is refused here, in its order, and costs nothing.

// GetPrototypeOf is an object's prototype.
func (h *Heap) GetPrototypeOf(o int) (api.Value, error) {
	if e := h.there(o); e != api.OK {
		return api.Value{}, e
	}
	return h.enterGetPrototypeOf(o)
}

// SetPrototypeOf gives an object another prototype.
func (h *Heap) SetPrototypeOf(o int, v api.Value) (bool, error) {
	if e := cmp.Or(h.there(o), sound(v), h.known(v), protoKind(v)); e != api.OK {
		return false, e
	}
	return h.enterSetPrototypeOf(o, v)
}

// IsExtensible tells whether an object may get new properties.
func (h *Heap) IsExtensible(o int) (bool, error) {
	if e := h.there(o); e != api.OK {
		return false, e
	}
	return h.enterIsExtensible(o)
}

// PreventExtensions takes care that it gets none.
func (h *Heap) PreventExtensions(o int) (bool, error) {
	if e := h.there(o); e != api.OK {
		return false, e
	}
	return h.enterPreventExtensions(o)
}

// GetOwnProperty is an object's own property.
func (h *Heap) GetOwnProperty(o int, k api.Key) (api.Desc, bool, error) {
	if e := cmp.Or(h.there(o), key.Check(k)); e != api.OK {
		return api.Desc{}, false, e
	}
	return h.enterGetOwnProperty(o, k)
}

// DefineOwnProperty defines an object's own property.
func (h *Heap) DefineOwnProperty(o int, k api.Key, d api.Desc) (bool, error) {
	if e := cmp.Or(h.there(o), key.Check(k), desc.Check(d), h.known(d.Value, d.Get, d.Set), h.accessors(d.Get, d.Set)); e != api.OK {
		return false, e
	}
	return h.enterDefineOwnProperty(o, k, d)
}

// HasProperty tells whether an object has a property.
func (h *Heap) HasProperty(o int, k api.Key) (bool, error) {
	if e := cmp.Or(h.there(o), key.Check(k)); e != api.OK {
		return false, e
	}
	return h.enterHasProperty(o, k)
}

// Get is a property's value.
func (h *Heap) Get(o int, k api.Key, receiver api.Value) (api.Value, error) {
	if e := cmp.Or(h.there(o), key.Check(k), sound(receiver), h.known(receiver)); e != api.OK {
		return api.Value{}, e
	}
	return h.enterGet(o, k, receiver)
}

// Set sets a property's value.
func (h *Heap) Set(o int, k api.Key, v, receiver api.Value) (bool, error) {
	if e := cmp.Or(h.there(o), key.Check(k), sound(v, receiver), h.known(v, receiver)); e != api.OK {
		return false, e
	}
	return h.enterSet(o, k, v, receiver)
}

// Delete takes a property away.
func (h *Heap) Delete(o int, k api.Key) (bool, error) {
	if e := cmp.Or(h.there(o), key.Check(k)); e != api.OK {
		return false, e
	}
	return h.enterDelete(o, k)
}

// OwnPropertyKeys is an object's own keys.
func (h *Heap) OwnPropertyKeys(o int) ([]api.Key, error) {
	if e := h.there(o); e != api.OK {
		return nil, e
	}
	return h.enterOwnPropertyKeys(o)
}

// Call calls a function. That f can be called is asked last of all, by EnterCall.
func (h *Heap) Call(f int, this api.Value, args []api.Value) (api.Value, error) {
	if e := cmp.Or(h.there(f), sound(this), sound(args...), h.known(this), h.known(args...), short(args)); e != api.OK {
		return api.Value{}, e
	}
	return h.EnterCall(f, this, args)
}

// Construct constructs by a function. That f can be constructed is asked last of all, by EnterConstruct.
func (h *Heap) Construct(f int, args []api.Value, target int) (int, error) {
	if e := cmp.Or(h.there(f), h.there(target), sound(args...), h.known(args...), short(args), h.constructor(target)); e != api.OK {
		return 0, e
	}
	return h.EnterConstruct(f, args, target)
}
