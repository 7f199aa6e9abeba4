package heap

import (
	"cameo/api"
	"cameo/desc"
	"cameo/value"
)

// Ordinary is the methods of an ordinary object (shared/doc/09-ordinary.md). They stand here, because Make's objects have them; other classes' methods embed them, and turn some. Called as they are, they enter nothing but what their words enter.
type Ordinary struct{}

// GetPrototypeOf is an object's prototype.
func (Ordinary) GetPrototypeOf(h *Heap, o int) (api.Value, error) { return h.at(o).proto, nil }

// SetPrototypeOf gives an object another prototype, unless it would go round.
func (Ordinary) SetPrototypeOf(h *Heap, o int, v api.Value) (bool, error) {
	x := h.at(o)
	if v == x.proto {
		return true, nil
	}
	if !x.extensible || h.leads(v, o) {
		return false, nil
	}
	x.proto = v
	return true, nil
}

// IsExtensible tells whether an object may get new properties.
func (Ordinary) IsExtensible(h *Heap, o int) (bool, error) { return h.at(o).extensible, nil }

// PreventExtensions takes care that it gets none.
func (Ordinary) PreventExtensions(h *Heap, o int) (bool, error) {
	h.at(o).extensible = false
	return true, nil
}

// GetOwnProperty is what lies there.
func (Ordinary) GetOwnProperty(h *Heap, o int, k api.Key) (api.Desc, bool, error) {
	d, ok := h.at(o).props.Get(k)
	return d, ok, nil
}

// DefineOwnProperty lays there what desc.Apply says. Neither that nor the table refuses: k and d were looked at ahead of being entered.
func (Ordinary) DefineOwnProperty(h *Heap, o int, k api.Key, d api.Desc) (bool, error) {
	x := h.at(o)
	now, _ := x.props.Get(k)
	next, ok, _ := desc.Apply(x.extensible, now, d)
	if ok {
		x.props.Put(k, next)
	}
	return ok, nil
}

// HasProperty tells whether an object, or one that its prototypes lead to, has a property.
func (Ordinary) HasProperty(h *Heap, o int, k api.Key) (bool, error) {
	_, ok, err := h.ownProperty(o, k)
	if err != nil {
		return false, err
	}
	proto := h.at(o).proto
	if ok || proto.Kind != api.KRef {
		return ok, nil
	}
	return h.enterHasProperty(proto.Id, k)
}

// Get is a property's value, which a getter may have to tell.
func (Ordinary) Get(h *Heap, o int, k api.Key, receiver api.Value) (api.Value, error) {
	d, ok, err := h.ownProperty(o, k)
	if err != nil {
		return api.Value{}, err
	}
	if ok {
		return h.read(d, receiver)
	}
	proto := h.at(o).proto
	if proto.Kind != api.KRef {
		return value.Undefined(), nil
	}
	return h.enterGet(proto.Id, k, receiver)
}

// read is what a property that was found tells.
func (h *Heap) read(d api.Desc, receiver api.Value) (api.Value, error) {
	if !accessor(d) {
		return d.Value, nil
	}
	if d.Get.Kind != api.KRef {
		return value.Undefined(), nil
	}
	return h.EnterCall(d.Get.Id, receiver, nil)
}

// Set sets a property's value, on the receiver, or by a setter.
func (Ordinary) Set(h *Heap, o int, k api.Key, v, receiver api.Value) (bool, error) {
	d, ok, err := h.ownProperty(o, k)
	if err != nil {
		return false, err
	}
	proto := h.at(o).proto
	if !ok && proto.Kind == api.KRef {
		return h.enterSet(proto.Id, k, v, receiver)
	}
	if !ok {
		d = open(value.Undefined())
	}
	if accessor(d) {
		return h.writeBy(d.Set, v, receiver)
	}
	if d.Writable == api.No || receiver.Kind != api.KRef {
		return false, nil
	}
	return h.write(receiver.Id, k, v)
}

// writeBy sets a value by a setter, whatever that answers.
func (h *Heap) writeBy(setter, v, receiver api.Value) (bool, error) {
	if setter.Kind != api.KRef {
		return false, nil
	}
	if _, err := h.EnterCall(setter.Id, receiver, []api.Value{v}); err != nil {
		return false, err
	}
	return true, nil
}

// write sets a value on the receiver itself, which may have such a property of its own, and other methods than the object that was asked.
func (h *Heap) write(o int, k api.Key, v api.Value) (bool, error) {
	d, ok, err := h.enterGetOwnProperty(o, k)
	if err != nil {
		return false, err
	}
	if !ok {
		return h.enterDefineOwnProperty(o, k, open(v))
	}
	if accessor(d) || d.Writable == api.No {
		return false, nil
	}
	return h.enterDefineOwnProperty(o, k, api.Desc{Value: v})
}

// Delete takes a property away, if it is configurable.
func (Ordinary) Delete(h *Heap, o int, k api.Key) (bool, error) {
	d, ok, err := h.ownProperty(o, k)
	if err != nil {
		return false, err
	}
	if !ok {
		return true, nil
	}
	if d.Configurable == api.No {
		return false, nil
	}
	h.at(o).props.Delete(k)
	return true, nil
}

// OwnPropertyKeys is the keys of what lies there.
func (Ordinary) OwnPropertyKeys(h *Heap, o int) ([]api.Key, error) {
	return h.at(o).props.Keys(), nil
}
