package records

import (
	"cameo/api"
	"cameo/heap"
	"cameo/value"
)

// What the calls refuse ahead of anything being done: each of these is one reason. All of them may be asked of anything, so that they can be asked in a row, of which the first one counts.

func there(h *heap.Heap, o int) api.Errno {
	_, e := h.Class(o)
	return e
}

func sound(l ...api.Value) api.Errno {
	for _, v := range l {
		if e := value.Check(v); e != api.OK {
			return e
		}
	}
	return api.OK
}

// known refuses objects that the heap has not; no value is no object.
func known(h *heap.Heap, l ...api.Value) api.Errno {
	for _, v := range l {
		if v.Kind == api.KRef && there(h, v.Id) != api.OK {
			return api.ErrRef
		}
	}
	return api.OK
}

func short(args []api.Value) api.Errno {
	if len(args) > api.MaxArgs {
		return api.ErrLong
	}
	return api.OK
}

// What throws, or goes on.

// object refuses what is no value of the heap, and throws at what is no object.
func object(h *heap.Heap, v api.Value) error {
	if e := h.Check(v); e != api.OK {
		return e
	}
	if v.Kind != api.KRef {
		return typeError()
	}
	return nil
}

// done throws where a method has answered that it did not do what it should.
func done(ok bool, err error) error {
	if err != nil {
		return err
	}
	if !ok {
		return typeError()
	}
	return nil
}

func typeError() error { return &api.Thrown{Kind: api.XType} }
