package mirror

import (
	"strings"

	"cameo/api"
	"cameo/heap"
	"cameo/value"
)

// What is refused, or thrown at, ahead of anything being done.

// known refuses what is no value of the heap.
func known(h *heap.Heap, l ...api.Value) error {
	for _, v := range l {
		if e := h.Check(v); e != api.OK {
			return e
		}
	}
	return nil
}

// object refuses what is no value of the heap, and then throws at what is no object.
func object(h *heap.Heap, o api.Value, others ...api.Value) error {
	if err := known(h, append([]api.Value{o}, others...)...); err != nil {
		return err
	}
	if o.Kind != api.KRef {
		return typeError()
	}
	return nil
}

// parent throws at what can be no prototype.
func parent(v api.Value) error {
	if v.Kind != api.KRef && v.Kind != api.KNull {
		return typeError()
	}
	return nil
}

// done throws where something has answered that it was not done.
func done(ok bool, err error) error {
	if !ok && err == nil {
		return typeError()
	}
	return err
}

func typeError() error { return &api.Thrown{Kind: api.XType} }

// What is handed out.

// ref is an object as a value; beside an error there is no object, and no value.
func ref(o int, err error) (api.Value, error) { return value.Ref(o), err }

// anew is a value as it is handed out: its string may be one that was handed in.
func anew(v api.Value, err error) (api.Value, error) {
	v.Str = strings.Clone(v.Str)
	return v, err
}
