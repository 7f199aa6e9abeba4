package proxy

import (
	"cameo/api"
	"cameo/array"
	"cameo/heap"
	"cameo/records"
	"cameo/value"
)

// object is the methods of a proxy: each asks for its trap; without one it is the target's method that is entered; else the trap is called, and what it answers is held against the target. None of them is an ordinary one.
type object struct{}

// function is the methods of a proxy whose target can be called.
type function struct{ object }

// constructor is the methods of a proxy whose target can be constructed, too.
type constructor struct{ function }

// methodsFor is the methods of a proxy of a target. What an object can it can for ever, so that this need not be asked again.
func methodsFor(h *heap.Heap, target api.Value) heap.Methods {
	switch {
	case h.Constructor(target):
		return constructor{}
	case h.Callable(target):
		return function{}
	}
	return object{}
}

// GetPrototypeOf is the prototype that the trap tells.
func (object) GetPrototypeOf(h *heap.Heap, o int) (api.Value, error) {
	x, err := trapOf(h, o, getPrototypeOf)
	switch {
	case err != nil:
		return api.Value{}, err
	case x.missing():
		return h.GetPrototypeOf(x.target)
	}
	r, err := x.call()
	if err := throwIf(r.Kind != api.KRef && r.Kind != api.KNull, err); err != nil {
		return api.Value{}, err
	}
	if err := x.descends(r); err != nil {
		return api.Value{}, err
	}
	return r, nil
}

// SetPrototypeOf is whether the trap says that there is another prototype now.
func (object) SetPrototypeOf(h *heap.Heap, o int, v api.Value) (bool, error) {
	x, err := trapOf(h, o, setPrototypeOf)
	switch {
	case err != nil:
		return false, err
	case x.missing():
		return h.SetPrototypeOf(x.target, v)
	}
	if ok, err := x.truthy(v); !ok || err != nil {
		return false, err
	}
	return done(x.descends(v))
}

// IsExtensible is what the trap tells, which cannot be but the truth.
func (object) IsExtensible(h *heap.Heap, o int) (bool, error) {
	x, err := trapOf(h, o, isExtensible)
	switch {
	case err != nil:
		return false, err
	case x.missing():
		return h.IsExtensible(x.target)
	}
	said, err := x.truthy()
	if err != nil {
		return false, err
	}
	is, err := h.IsExtensible(x.target)
	if err := throwIf(is != said, err); err != nil {
		return false, err
	}
	return is, nil
}

// PreventExtensions is whether the trap says that there will be no new properties any more.
func (object) PreventExtensions(h *heap.Heap, o int) (bool, error) {
	x, err := trapOf(h, o, preventExtensions)
	switch {
	case err != nil:
		return false, err
	case x.missing():
		return h.PreventExtensions(x.target)
	}
	if ok, err := x.truthy(); !ok || err != nil {
		return false, err
	}
	is, err := h.IsExtensible(x.target)
	return done(throwIf(is, err))
}

// GetOwnProperty is the property that the trap tells as an object.
func (object) GetOwnProperty(h *heap.Heap, o int, k api.Key) (api.Desc, bool, error) {
	x, err := trapOf(h, o, getOwnPropertyDescriptor)
	switch {
	case err != nil:
		return api.Desc{}, false, err
	case x.missing():
		return h.GetOwnProperty(x.target, k)
	}
	r, err := x.call(nameOf(k))
	if err := throwIf(r.Kind != api.KRef && r.Kind != api.KUndefined, err); err != nil {
		return api.Desc{}, false, err
	}
	now, there, err := h.GetOwnProperty(x.target, k)
	switch {
	case err != nil:
		return api.Desc{}, false, err
	case r.Kind == api.KUndefined:
		return api.Desc{}, false, x.hides(now, there)
	}
	return x.described(now, r)
}

// DefineOwnProperty is whether the trap says that the property is defined.
func (object) DefineOwnProperty(h *heap.Heap, o int, k api.Key, d api.Desc) (bool, error) {
	x, err := trapOf(h, o, defineProperty)
	switch {
	case err != nil:
		return false, err
	case x.missing():
		return h.DefineOwnProperty(x.target, k, d)
	}
	as, err := records.From(h, d, value.Null())
	if err != nil {
		return false, err
	}
	if ok, err := x.truthy(nameOf(k), value.Ref(as)); !ok || err != nil {
		return false, err
	}
	return done(x.defined(k, d))
}

// HasProperty is whether the trap says that there is such a property.
func (object) HasProperty(h *heap.Heap, o int, k api.Key) (bool, error) {
	x, err := trapOf(h, o, has)
	switch {
	case err != nil:
		return false, err
	case x.missing():
		return h.HasProperty(x.target, k)
	}
	if ok, err := x.truthy(nameOf(k)); ok || err != nil {
		return ok, err
	}
	return false, x.lacks(k)
}

// Get is the value that the trap tells.
func (object) Get(h *heap.Heap, o int, k api.Key, receiver api.Value) (api.Value, error) {
	x, err := trapOf(h, o, get)
	switch {
	case err != nil:
		return api.Value{}, err
	case x.missing():
		return h.Get(x.target, k, receiver)
	}
	r, err := x.call(nameOf(k), receiver)
	if err != nil {
		return api.Value{}, err
	}
	now, _, err := h.GetOwnProperty(x.target, k)
	if err := throwIf(misread(now, r), err); err != nil {
		return api.Value{}, err
	}
	return anew(r), nil
}

// Set is whether the trap says that the value is set.
func (object) Set(h *heap.Heap, o int, k api.Key, v, receiver api.Value) (bool, error) {
	x, err := trapOf(h, o, set)
	switch {
	case err != nil:
		return false, err
	case x.missing():
		return h.Set(x.target, k, v, receiver)
	}
	if ok, err := x.truthy(nameOf(k), v, receiver); !ok || err != nil {
		return false, err
	}
	now, _, err := h.GetOwnProperty(x.target, k)
	return done(throwIf(unwritten(now, v), err))
}

// Delete is whether the trap says that there is no such property any more.
func (object) Delete(h *heap.Heap, o int, k api.Key) (bool, error) {
	x, err := trapOf(h, o, deleteProperty)
	switch {
	case err != nil:
		return false, err
	case x.missing():
		return h.Delete(x.target, k)
	}
	if ok, err := x.truthy(nameOf(k)); !ok || err != nil {
		return false, err
	}
	return done(x.lacks(k))
}

// OwnPropertyKeys is the keys that the trap tells as an object with a length.
func (object) OwnPropertyKeys(h *heap.Heap, o int) ([]api.Key, error) {
	x, err := trapOf(h, o, ownKeys)
	switch {
	case err != nil:
		return nil, err
	case x.missing():
		return h.OwnPropertyKeys(x.target)
	}
	r, err := x.call()
	if err != nil {
		return nil, err
	}
	l, err := records.Keys(h, r)
	if err != nil {
		return nil, err
	}
	if err := x.listed(l); err != nil {
		return nil, err
	}
	return l, nil
}

// Call is what the trap answers. Without one the target may be given more arguments than the door lets in: a bound function may have handed them on.
func (function) Call(h *heap.Heap, f int, this api.Value, args []api.Value) (api.Value, error) {
	x, err := trapOf(h, f, apply)
	switch {
	case err != nil:
		return api.Value{}, err
	case x.missing():
		return h.EnterCall(x.target, this, args)
	}
	l, err := array.Of(h, value.Null(), args)
	if err != nil {
		return api.Value{}, err
	}
	r, err := x.call(this, value.Ref(l))
	return anew(r), err
}

// Construct is the object that the trap answers.
func (constructor) Construct(h *heap.Heap, f int, args []api.Value, target int) (int, error) {
	x, err := trapOf(h, f, construct)
	switch {
	case err != nil:
		return 0, err
	case x.missing():
		return h.EnterConstruct(x.target, args, target)
	}
	l, err := array.Of(h, value.Null(), args)
	if err != nil {
		return 0, err
	}
	r, err := x.call(value.Ref(l), value.Ref(target))
	if err := throwIf(r.Kind != api.KRef, err); err != nil {
		return 0, err
	}
	return r.Id, nil
}
