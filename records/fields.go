package records

import (
	"slices"

	"cameo/api"
	"cameo/desc"
	"cameo/heap"
	"cameo/value"
)

// field is one of a descriptor's six, which an object has as a property of that name.
type field struct {
	name string
	tell func(d api.Desc) api.Value                         // as a value; no value, if it is not there
	take func(h *heap.Heap, d *api.Desc, v api.Value) error // lays into a descriptor what an object has there
}

// The fields stand in two groups, because they are laid in another order than they are asked for.

// common is the fields that all descriptors may have.
func common() []field {
	return []field{
		flag("enumerable", func(d *api.Desc) *api.Tri { return &d.Enumerable }),
		flag("configurable", func(d *api.Desc) *api.Tri { return &d.Configurable }),
	}
}

// peculiar is the fields that only those of data, or only those of accessors may have.
func peculiar() []field {
	return []field{
		datum("value", func(d *api.Desc) *api.Value { return &d.Value }),
		flag("writable", func(d *api.Desc) *api.Tri { return &d.Writable }),
		function("get", func(d *api.Desc) *api.Value { return &d.Get }),
		function("set", func(d *api.Desc) *api.Value { return &d.Set }),
	}
}

// laid is all fields in the order in which From lays them.
func laid() []field { return slices.Concat(peculiar(), common()) }

// asked is all fields in the order in which To asks for them.
func asked() []field { return slices.Concat(common(), peculiar()) }

// flag is a field that is Yes or No, and a boolean of the object.
func flag(name string, at func(d *api.Desc) *api.Tri) field {
	return field{
		name: name,
		tell: func(d api.Desc) api.Value { return truth(*at(&d)) },
		take: func(_ *heap.Heap, d *api.Desc, v api.Value) error {
			*at(d) = tri(v)
			return nil
		},
	}
}

// datum is a field that is any value.
func datum(name string, at func(d *api.Desc) *api.Value) field {
	return field{
		name: name,
		tell: func(d api.Desc) api.Value { return *at(&d) },
		take: func(_ *heap.Heap, d *api.Desc, v api.Value) error {
			*at(d) = anew(v)
			return nil
		},
	}
}

// function is a field that is undefined, or can be called.
func function(name string, at func(d *api.Desc) *api.Value) field {
	f := datum(name, at)
	lay := f.take
	f.take = func(h *heap.Heap, d *api.Desc, v api.Value) error {
		if v.Kind != api.KUndefined && !h.Callable(v) {
			return typeError()
		}
		return lay(h, d, v)
	}
	return f
}

// truth is a flag as a value.
func truth(t api.Tri) api.Value {
	if t == api.Absent {
		return api.Value{}
	}
	return value.Bool(t == api.Yes)
}

// tri is a value as a flag.
func tri(v api.Value) api.Tri {
	if ok, _ := value.Truth(v); ok {
		return api.Yes
	}
	return api.No
}

// properties is the fields that are there in a descriptor, as an object has them.
func properties(d api.Desc) []api.Prop {
	var l []api.Prop
	for _, f := range laid() {
		if v := f.tell(d); v.Kind != api.KNone {
			l = append(l, api.Prop{Key: api.Key{Str: f.name}, Desc: open(v)})
		}
	}
	return l
}

// described is the descriptor that an object's fields make. Each field is sound by itself: all that may be wrong with them together is that it is both of data and of an accessor.
func described(h *heap.Heap, v api.Value) (api.Desc, error) {
	var d api.Desc
	for _, f := range asked() {
		if err := fill(h, v, f, &d); err != nil {
			return api.Desc{}, err
		}
	}
	if desc.Check(d) != api.OK {
		return api.Desc{}, typeError()
	}
	return d, nil
}

// fill lays a field into a descriptor, if the object has it.
func fill(h *heap.Heap, o api.Value, f field, d *api.Desc) error {
	has, err := h.HasProperty(o.Id, api.Key{Str: f.name})
	if !has || err != nil {
		return err
	}
	v, err := get(h, o, f.name)
	if err != nil {
		return err
	}
	return f.take(h, d, v)
}
