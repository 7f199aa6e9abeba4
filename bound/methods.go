package bound

import (
	"slices"
	"strings"

	"cameo/api"
	"cameo/heap"
	"cameo/value"
)

// binding is what a bound function alone has. Nothing of it ever changes.
type binding struct {
	target int // what is called
	this   api.Value
	args   []api.Value
}

// bindingOf is what a bound function has; false, if f is none.
func bindingOf(h *heap.Heap, f int) (binding, bool) {
	b, ok := h.Own(f).(binding)
	return b, ok
}

// function is the methods of a bound function.
type function struct{ heap.Ordinary }

// constructor is the methods of a bound function whose target is a constructor, too.
type constructor struct{ function }

func methods(ctor bool) heap.Methods {
	if ctor {
		return constructor{}
	}
	return function{}
}

// Call calls the target. Both lists of arguments may be as long as one alone: the door would refuse that.
func (function) Call(h *heap.Heap, f int, _ api.Value, args []api.Value) (api.Value, error) {
	b, _ := bindingOf(h, f)
	return h.EnterCall(b.target, b.this, slices.Concat(b.args, args))
}

// Construct constructs by the target, which stands for the bound function where that was to be new.target.
func (constructor) Construct(h *heap.Heap, f int, args []api.Value, target int) (int, error) {
	b, _ := bindingOf(h, f)
	if target == f {
		target = b.target
	}
	return h.EnterConstruct(b.target, slices.Concat(b.args, args), target)
}

// add is a new bound function without properties, of its target's prototype.
func add(h *heap.Heap, b binding) (int, error) {
	proto, err := h.GetPrototypeOf(b.target)
	if err != nil {
		return 0, err
	}
	return h.Add(api.CBound, proto, methods(h.Constructor(value.Ref(b.target))), b)
}

// anew is a value as it is kept, or handed out: its string is new memory.
func anew(v api.Value) api.Value {
	v.Str = strings.Clone(v.Str)
	return v
}

func anewAll(l []api.Value) []api.Value {
	out := make([]api.Value, len(l))
	for i, v := range l {
		out[i] = anew(v)
	}
	return out
}
