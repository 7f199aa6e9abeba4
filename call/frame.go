package call

import (
	"cameo/api"
	"cameo/heap"
	"cameo/key"
	"cameo/value"
)

// frame is a body that is being run. Which of A, B and C are registers hangs on an operation's code, so that none of them is looked up ahead of it.
type frame struct {
	h      *heap.Heap
	self   int
	this   api.Value
	args   []api.Value
	target api.Value
	regs   [api.MaxRegs]api.Value
}

// run does a body, operation by operation, up to its answer.
func (x *frame) run(body []api.Op) (api.Value, error) {
	for at := 0; at < len(body); at++ {
		if e := spend(x.h); e != api.OK {
			return api.Value{}, e
		}
		op := body[at]
		switch op.Code {
		case api.OReturn:
			return x.regs[op.A], nil
		case api.OSkip:
			// B may be as great as a number can: no more is passed over than there is.
			if truth, _ := value.Truth(x.regs[op.A]); !truth {
				at += min(op.B, len(body)-1-at)
			}
		default:
			if err := x.settle(op); err != nil {
				return api.Value{}, err
			}
		}
	}
	return value.Undefined(), nil
}

func spend(h *heap.Heap) api.Errno {
	if h.Fuel() == 0 {
		return api.ErrFuel
	}
	return h.Refuel(h.Fuel() - 1)
}

// settle does an operation, and sets its register: to what it answers, or to what it throws, if that is to be caught.
func (x *frame) settle(op api.Op) error {
	v, err := x.do(op)
	if err != nil && op.Catch {
		v, err = handled(err)
	}
	if err != nil {
		return err
	}
	x.regs[op.To] = v
	return nil
}

// do is what an operation comes to.
func (x *frame) do(op api.Op) (api.Value, error) {
	switch op.Code {
	case api.OConst:
		return op.Val, nil
	case api.OMove:
		return x.regs[op.A], nil
	case api.OThis:
		return x.this, nil
	case api.OArg:
		return x.arg(op.A), nil
	case api.OTarget:
		return x.target, nil
	case api.OSelf:
		return value.Ref(x.self), nil
	case api.OThrow:
		return api.Value{}, &api.Thrown{Kind: api.XValue, Value: x.regs[op.A]}
	case api.OMake:
		return x.fresh(x.regs[op.A])
	}
	a := x.regs[op.A]
	if a.Kind != api.KRef {
		return typeError()
	}
	return x.enter(op, a)
}

func (x *frame) arg(n int) api.Value {
	if n >= len(x.args) {
		return value.Undefined()
	}
	return x.args[n]
}

func (x *frame) fresh(proto api.Value) (api.Value, error) {
	if proto.Kind != api.KNull && proto.Kind != api.KRef {
		return typeError()
	}
	return object(x.h.Make(proto))
}

// enter is what an operation comes to that enters an internal method of the object a.
func (x *frame) enter(op api.Op, a api.Value) (api.Value, error) {
	switch op.Code {
	case api.OGet:
		return x.h.Get(a.Id, op.Key, a)
	case api.OSet:
		return told(x.h.Set(a.Id, op.Key, x.regs[op.B], a))
	case api.ODefine:
		return told(x.h.DefineOwnProperty(a.Id, op.Key, x.described(op)))
	case api.ODelete:
		return told(x.h.Delete(a.Id, op.Key))
	case api.OHas:
		return told(x.h.HasProperty(a.Id, op.Key))
	case api.OOwn:
		_, ok, err := x.h.GetOwnProperty(a.Id, op.Key)
		return told(ok, err)
	case api.OProto:
		return x.h.GetPrototypeOf(a.Id)
	case api.OReproto:
		return x.reproto(a, x.regs[op.B])
	case api.OExt:
		return told(x.h.IsExtensible(a.Id))
	case api.OPrevent:
		return told(x.h.PreventExtensions(a.Id))
	case api.OCall:
		return x.call(a, x.regs[op.B], x.regs[op.C])
	case api.ONew:
		return x.construct(a, x.regs[op.B])
	case api.OGetBy:
		return x.getBy(a, x.regs[op.B])
	}
	return x.setBy(a, x.regs[op.B], x.regs[op.C])
}

func (x *frame) described(op api.Op) api.Desc {
	d := op.Desc
	if op.Flag {
		d.Value = x.regs[op.B]
	}
	return d
}

func (x *frame) reproto(a, proto api.Value) (api.Value, error) {
	if proto.Kind != api.KNull && proto.Kind != api.KRef {
		return typeError()
	}
	return told(x.h.SetPrototypeOf(a.Id, proto))
}

func (x *frame) call(f, this, arg api.Value) (api.Value, error) {
	if !x.h.Callable(f) {
		return typeError()
	}
	return x.h.Call(f.Id, this, []api.Value{arg})
}

func (x *frame) construct(f, arg api.Value) (api.Value, error) {
	if !x.h.Constructor(f) {
		return typeError()
	}
	return object(x.h.Construct(f.Id, []api.Value{arg}, f.Id))
}

// getBy leaves it to key.Of to refuse an object as a key: that is all it refuses, of values of a heap.
func (x *frame) getBy(a, name api.Value) (api.Value, error) {
	k, e := key.Of(name)
	if e != api.OK {
		return typeError()
	}
	return x.h.Get(a.Id, k, a)
}

func (x *frame) setBy(a, name, v api.Value) (api.Value, error) {
	k, e := key.Of(name)
	if e != api.OK {
		return typeError()
	}
	return told(x.h.Set(a.Id, k, v, a))
}

// told is whether something was done, as a value.
func told(ok bool, err error) (api.Value, error) {
	if err != nil {
		return api.Value{}, err
	}
	return value.Bool(ok), nil
}

// object is an object as a value.
func object(n int, err error) (api.Value, error) {
	if err != nil {
		return api.Value{}, err
	}
	return value.Ref(n), nil
}
