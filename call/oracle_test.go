package call_test

// What the chapter's words say of a body, written down a second time, by other means than the package has: registers are a map in which undefined does not stand, each operation is what a table by its code says, and what throws or stops is a panic that the operation, or the call, picks up.

import (
	"strconv"

	"cameo/api"
	"cameo/heap"
)

// twin is the methods of a second function, and twinMaker of a second constructor: what they do is the body that the class alone has.
type twin struct{ heap.Ordinary }

type twinMaker struct{ twin }

func (twin) Call(h *heap.Heap, f int, this api.Value, args []api.Value) (api.Value, error) {
	return newSecond(h, f, this, args, undefined()).all()
}

func (twinMaker) Construct(h *heap.Heap, f int, args []api.Value, target int) (n int, err error) {
	v, err := h.Get(target, str("prototype"), ref(target))
	if err != nil {
		return 0, err
	}
	if v.Kind < api.KRef {
		v = null()
	}
	if n, err = h.Make(v); err != nil {
		return 0, err
	}
	switch v, err := newSecond(h, f, ref(n), args, ref(target)).all(); {
	case err != nil:
		return 0, err
	case v.Kind == api.KRef:
		return v.Id, nil
	}
	return n, nil
}

func addTwin(h *heap.Heap, proto api.Value, body []api.Op, ctor bool) (int, error) {
	if ctor {
		return h.Add(api.CFunction, proto, twinMaker{}, body)
	}
	return h.Add(api.CFunction, proto, twin{}, body)
}

// second is a body that is being run.
type second struct {
	h       *heap.Heap
	body    []api.Op
	regs    map[int]api.Value
	this    api.Value
	target  api.Value
	self    api.Value
	args    []api.Value
	answer  *api.Value
	pending int // operations to be passed over
}

func newSecond(h *heap.Heap, f int, this api.Value, args []api.Value, target api.Value) *second {
	return &second{h: h, body: h.Own(f).([]api.Op), regs: map[int]api.Value{}, this: this, target: target, self: ref(f), args: args}
}

func (s *second) reg(n int) api.Value {
	if v, ok := s.regs[n]; ok {
		return v
	}
	return undefined()
}

// all does what is left of the body.
func (s *second) all() (api.Value, error) {
	for s.answer == nil {
		if len(s.body) == 0 {
			return undefined(), nil
		}
		o := s.body[0]
		s.body = s.body[1:]
		if s.pending > 0 {
			s.pending--
			continue
		}
		if s.h.Fuel() < 1 {
			return api.Value{}, api.ErrFuel
		}
		s.h.Refuel(s.h.Fuel() - 1)
		if err := s.one(o); err != nil {
			return api.Value{}, err
		}
	}
	return *s.answer, nil
}

// one does an operation; what it panics with is caught, or handed on.
func (s *second) one(o api.Op) (err error) {
	defer func() {
		p := recover()
		x, throws := p.(*api.Thrown)
		switch {
		case p == nil:
		case !throws || !o.Catch:
			err = p.(error)
		case x.Kind == api.XValue:
			s.regs[o.To] = x.Value
		default:
			s.regs[o.To] = text([]string{"TypeError", "RangeError", "SyntaxError", "ReferenceError"}[x.Kind-api.XType])
		}
	}()
	if v := s.table()[o.Code](o); v != (api.Value{}) {
		s.regs[o.To] = v
	}
	return nil
}

func must[T any](x T, err error) T {
	if err != nil {
		panic(err)
	}
	return x
}

func boolean(ok bool, err error) api.Value {
	if must(ok, err) {
		return yes()
	}
	return no()
}

func demand(ok bool) {
	if !ok {
		panic(&api.Thrown{Kind: api.XType})
	}
}

// object is the object of a register.
func (s *second) object(n int) int {
	demand(s.reg(n).Kind == api.KRef)
	return s.reg(n).Id
}

func (s *second) proto(n int) api.Value {
	demand(s.reg(n).Kind == api.KRef || s.reg(n) == null())
	return s.reg(n)
}

// name is the key of a register, of the values that these tests have.
func (s *second) name(n int) api.Key {
	v := s.reg(n)
	demand(v.Kind != api.KRef)
	switch v.Kind {
	case api.KStr:
		return str(v.Str)
	case api.KSym:
		return sym(v.Id)
	case api.KNum:
		return str(strconv.FormatFloat(v.Num, 'f', -1, 64))
	case api.KBool:
		return str(strconv.FormatBool(v.Bool))
	}
	return str(map[int]string{api.KUndefined: "undefined", api.KNull: "null"}[v.Kind])
}

// falsy tells it of the values that these tests have.
func falsy(v api.Value) bool {
	return v.Kind <= api.KNull || v == no() || v == num(0) || v == text("")
}

// table is what each code comes to; no value, where nothing becomes.
func (s *second) table() map[int]func(o api.Op) api.Value {
	h := s.h
	return map[int]func(o api.Op) api.Value{
		api.OConst: func(o api.Op) api.Value { return o.Val },
		api.OMove:  func(o api.Op) api.Value { return s.reg(o.A) },
		api.OThis:  func(o api.Op) api.Value { return s.this },
		api.OArg: func(o api.Op) api.Value {
			return append(append([]api.Value{}, s.args...), undefined())[min(o.A, len(s.args))]
		},
		api.OTarget: func(o api.Op) api.Value { return s.target },
		api.OSelf:   func(o api.Op) api.Value { return s.self },
		api.OReturn: func(o api.Op) api.Value { v := s.reg(o.A); s.answer = &v; return api.Value{} },
		api.OThrow:  func(o api.Op) api.Value { panic(&api.Thrown{Kind: api.XValue, Value: s.reg(o.A)}) },
		api.OSkip: func(o api.Op) api.Value {
			if falsy(s.reg(o.A)) {
				s.pending = o.B
			}
			return api.Value{}
		},
		api.OMake:  func(o api.Op) api.Value { return ref(must(h.Make(s.proto(o.A)))) },
		api.OGet:   func(o api.Op) api.Value { return must(h.Get(s.object(o.A), o.Key, s.reg(o.A))) },
		api.OGetBy: func(o api.Op) api.Value { return must(h.Get(s.object(o.A), s.name(o.B), s.reg(o.A))) },
		api.OSet:   func(o api.Op) api.Value { return boolean(h.Set(s.object(o.A), o.Key, s.reg(o.B), s.reg(o.A))) },
		api.OSetBy: func(o api.Op) api.Value {
			return boolean(h.Set(s.object(o.A), s.name(o.B), s.reg(o.C), s.reg(o.A)))
		},
		api.ODefine: func(o api.Op) api.Value {
			d := o.Desc
			if o.Flag {
				d.Value = s.reg(o.B)
			}
			return boolean(h.DefineOwnProperty(s.object(o.A), o.Key, d))
		},
		api.ODelete: func(o api.Op) api.Value { return boolean(h.Delete(s.object(o.A), o.Key)) },
		api.OHas:    func(o api.Op) api.Value { return boolean(h.HasProperty(s.object(o.A), o.Key)) },
		api.OOwn: func(o api.Op) api.Value {
			_, ok, err := h.GetOwnProperty(s.object(o.A), o.Key)
			return boolean(ok, err)
		},
		api.OProto:   func(o api.Op) api.Value { return must(h.GetPrototypeOf(s.object(o.A))) },
		api.OReproto: func(o api.Op) api.Value { return boolean(h.SetPrototypeOf(s.object(o.A), s.proto(o.B))) },
		api.OExt:     func(o api.Op) api.Value { return boolean(h.IsExtensible(s.object(o.A))) },
		api.OPrevent: func(o api.Op) api.Value { return boolean(h.PreventExtensions(s.object(o.A))) },
		api.OCall: func(o api.Op) api.Value {
			demand(h.Callable(s.reg(o.A)))
			return must(h.Call(s.object(o.A), s.reg(o.B), []api.Value{s.reg(o.C)}))
		},
		api.ONew: func(o api.Op) api.Value {
			demand(h.Constructor(s.reg(o.A)))
			return ref(must(h.Construct(s.object(o.A), []api.Value{s.reg(o.B)}, s.object(o.A))))
		},
	}
}
