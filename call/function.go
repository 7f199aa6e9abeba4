package call

import (
	"cameo/api"
	"cameo/heap"
	"cameo/value"
)

// program is what a function alone has. Nothing of it ever changes, so that what runs may read it on the spot.
type program struct {
	body []api.Op
	ctor bool
}

// programOf is an object's program; false, if it is no function.
func programOf(h *heap.Heap, f int) (program, bool) {
	p, ok := h.Own(f).(program)
	return p, ok
}

// function is the methods of a function.
type function struct{ heap.Ordinary }

// constructor is the methods of a function that is a constructor, too.
type constructor struct{ function }

func methods(ctor bool) heap.Methods {
	if ctor {
		return constructor{}
	}
	return function{}
}

// Call runs the body.
func (m function) Call(h *heap.Heap, f int, this api.Value, args []api.Value) (api.Value, error) {
	return m.run(h, f, this, args, value.Undefined())
}

// Construct runs the body over a new object, which is the answer, unless the body has another one. (A body that comes to its end answers undefined, which is no object.)
func (m constructor) Construct(h *heap.Heap, f int, args []api.Value, target int) (int, error) {
	o, err := madeFor(h, target)
	if err != nil {
		return 0, err
	}
	v, err := m.run(h, f, value.Ref(o), args, value.Ref(target))
	if err != nil {
		return 0, err
	}
	if v.Kind == api.KRef {
		return v.Id, nil
	}
	return o, nil
}

// madeFor is a new object with the prototype that a target gives.
func madeFor(h *heap.Heap, target int) (int, error) {
	proto, err := h.Get(target, api.Key{Str: "prototype"}, value.Ref(target))
	if err != nil {
		return 0, err
	}
	if proto.Kind != api.KRef {
		proto = value.Null()
	}
	return h.Make(proto)
}

func (function) run(h *heap.Heap, f int, this api.Value, args []api.Value, target api.Value) (api.Value, error) {
	p, _ := programOf(h, f)
	x := frame{h: h, self: f, this: this, args: args, target: target}
	for i := range x.regs {
		x.regs[i] = value.Undefined()
	}
	return x.run(p.body)
}
