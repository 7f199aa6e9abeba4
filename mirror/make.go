package mirror

import (
	"cameo/api"
	"cameo/heap"
	"cameo/records"
	"cameo/value"
)

// Create is Object.create.
func Create(h *heap.Heap, proto, props api.Value) (api.Value, error) {
	if err := known(h, proto, props); err != nil {
		return api.Value{}, err
	}
	if err := parent(proto); err != nil {
		return api.Value{}, err
	}
	o, err := ref(h.Make(proto))
	if err != nil {
		return api.Value{}, err
	}
	if props.Kind != api.KUndefined {
		err = DefineProperties(h, o, props)
	}
	if err != nil {
		return api.Value{}, err
	}
	return o, nil
}

// DefineProperties is Object.defineProperties. All is asked for ahead of anything being defined: what is wrong with one of them leaves none.
func DefineProperties(h *heap.Heap, o, props api.Value) error {
	if err := object(h, o, props); err != nil {
		return err
	}
	p, err := Object(h, props)
	if err != nil {
		return err
	}
	var l []api.Prop
	err = walk(h, p, shown(got), func(k api.Key, v api.Value) error {
		d, err := records.To(h, v)
		l = append(l, api.Prop{Key: k, Desc: d})
		return err
	})
	if err != nil {
		return err
	}
	return define(h, o.Id, l)
}

// define defines properties one behind the other, or throws.
func define(h *heap.Heap, o int, l []api.Prop) error {
	for _, p := range l {
		if err := done(h.DefineOwnProperty(o, p.Key, p.Desc)); err != nil {
			return err
		}
	}
	return nil
}

// Descriptors is Object.getOwnPropertyDescriptors.
func Descriptors(h *heap.Heap, v api.Value) (api.Value, error) {
	o, err := Object(h, v)
	if err != nil {
		return api.Value{}, err
	}
	keys, err := h.OwnPropertyKeys(o)
	if err != nil {
		return api.Value{}, err
	}
	r, err := h.Make(value.Null())
	if err != nil {
		return api.Value{}, err
	}
	err = through(h, o, keys, described, func(k api.Key, d api.Value) error { return records.Create(h, r, k, d) })
	if err != nil {
		return api.Value{}, err
	}
	return value.Ref(r), nil
}

// Assign is Object.assign.
func Assign(h *heap.Heap, target api.Value, sources []api.Value) (api.Value, error) {
	if err := known(h, append([]api.Value{target}, sources...)...); err != nil {
		return api.Value{}, err
	}
	t, err := Object(h, target)
	if err != nil {
		return api.Value{}, err
	}
	for _, v := range sources {
		if err := assign(h, t, v); err != nil {
			return api.Value{}, err
		}
	}
	return value.Ref(t), nil
}

// assign puts what is enumerable of one source into an object; undefined and null have nothing.
func assign(h *heap.Heap, t int, source api.Value) error {
	if source.Kind == api.KUndefined || source.Kind == api.KNull {
		return nil
	}
	s, err := Object(h, source)
	if err != nil {
		return err
	}
	return walk(h, s, shown(got), func(k api.Key, v api.Value) error { return records.Put(h, t, k, v) })
}
