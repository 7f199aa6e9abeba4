package mirror

import (
	"cameo/api"
	"cameo/convert"
	"cameo/heap"
	"cameo/records"
	"cameo/value"
)

// Apply is Reflect.apply.
func Apply(h *heap.Heap, f, this, list api.Value) (api.Value, error) {
	if err := known(h, f, this, list); err != nil {
		return api.Value{}, err
	}
	if !h.Callable(f) {
		return api.Value{}, typeError()
	}
	args, err := records.List(h, list)
	if err != nil {
		return api.Value{}, err
	}
	return anew(h.Call(f.Id, this, args))
}

// Construct is Reflect.construct.
func Construct(h *heap.Heap, f, list, target api.Value) (api.Value, error) {
	if err := known(h, f, list, target); err != nil {
		return api.Value{}, err
	}
	if !h.Constructor(f) || !h.Constructor(target) {
		return api.Value{}, typeError()
	}
	args, err := records.List(h, list)
	if err != nil {
		return api.Value{}, err
	}
	return ref(h.Construct(f.Id, args, target.Id))
}

// DefineProperty is Reflect.defineProperty.
func DefineProperty(h *heap.Heap, o, k, attributes api.Value) (bool, error) {
	name, err := place(h, o, k, attributes)
	if err != nil {
		return false, err
	}
	d, err := records.To(h, attributes)
	if err != nil {
		return false, err
	}
	return h.DefineOwnProperty(o.Id, name, d)
}

// DeleteProperty is Reflect.deleteProperty.
func DeleteProperty(h *heap.Heap, o, k api.Value) (bool, error) {
	name, err := place(h, o, k)
	if err != nil {
		return false, err
	}
	return h.Delete(o.Id, name)
}

// Get is Reflect.get.
func Get(h *heap.Heap, o, k, receiver api.Value) (api.Value, error) {
	name, err := place(h, o, k, receiver)
	if err != nil {
		return api.Value{}, err
	}
	return anew(h.Get(o.Id, name, receiver))
}

// Set is Reflect.set.
func Set(h *heap.Heap, o, k, v, receiver api.Value) (bool, error) {
	name, err := place(h, o, k, v, receiver)
	if err != nil {
		return false, err
	}
	return h.Set(o.Id, name, v, receiver)
}

// Has is Reflect.has.
func Has(h *heap.Heap, o, k api.Value) (bool, error) {
	name, err := place(h, o, k)
	if err != nil {
		return false, err
	}
	return h.HasProperty(o.Id, name)
}

// Descriptor is Reflect.getOwnPropertyDescriptor.
func Descriptor(h *heap.Heap, o, k api.Value) (api.Value, error) {
	name, err := place(h, o, k)
	if err != nil {
		return api.Value{}, err
	}
	d, err := described(h, o.Id, name)
	if d.Kind == api.KNone && err == nil {
		return value.Undefined(), nil
	}
	return d, err
}

// GetPrototypeOf is Reflect.getPrototypeOf.
func GetPrototypeOf(h *heap.Heap, o api.Value) (api.Value, error) {
	if err := object(h, o); err != nil {
		return api.Value{}, err
	}
	return h.GetPrototypeOf(o.Id)
}

// SetPrototypeOf is Reflect.setPrototypeOf.
func SetPrototypeOf(h *heap.Heap, o, proto api.Value) (bool, error) {
	if err := object(h, o, proto); err != nil {
		return false, err
	}
	if err := parent(proto); err != nil {
		return false, err
	}
	return h.SetPrototypeOf(o.Id, proto)
}

// IsExtensible is Reflect.isExtensible.
func IsExtensible(h *heap.Heap, o api.Value) (bool, error) {
	if err := object(h, o); err != nil {
		return false, err
	}
	return h.IsExtensible(o.Id)
}

// PreventExtensions is Reflect.preventExtensions.
func PreventExtensions(h *heap.Heap, o api.Value) (bool, error) {
	if err := object(h, o); err != nil {
		return false, err
	}
	return h.PreventExtensions(o.Id)
}

// OwnKeys is Reflect.ownKeys.
func OwnKeys(h *heap.Heap, o api.Value) (api.Value, error) {
	if err := object(h, o); err != nil {
		return api.Value{}, err
	}
	return list(h, o.Id, itself)
}

// place is where most of Reflect's functions work: an object, and a value as a key of it. The others are what else a function is given.
func place(h *heap.Heap, o, k api.Value, others ...api.Value) (api.Key, error) {
	if err := object(h, o, append([]api.Value{k}, others...)...); err != nil {
		return api.Key{}, err
	}
	return convert.Key(h, k)
}
