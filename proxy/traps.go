package proxy

import (
	"cameo/api"
	"cameo/convert"
	"cameo/heap"
	"cameo/value"
)

// The traps, by their places among the names.
const (
	getPrototypeOf = iota
	setPrototypeOf
	isExtensible
	preventExtensions
	getOwnPropertyDescriptor
	defineProperty
	has
	get
	set
	deleteProperty
	ownKeys
	apply
	construct
)

var names = [...]string{
	getPrototypeOf:           "getPrototypeOf",
	setPrototypeOf:           "setPrototypeOf",
	isExtensible:             "isExtensible",
	preventExtensions:        "preventExtensions",
	getOwnPropertyDescriptor: "getOwnPropertyDescriptor",
	defineProperty:           "defineProperty",
	has:                      "has",
	get:                      "get",
	set:                      "set",
	deleteProperty:           "deleteProperty",
	ownKeys:                  "ownKeys",
	apply:                    "apply",
	construct:                "construct",
}

// trap is a handler's function for one method of a target. Both are those that the proxy had when the method was entered: what runs in the midst of it may revoke the proxy.
type trap struct {
	h       *heap.Heap
	target  int
	handler api.Value
	f       api.Value // undefined, if the handler has none
}

// trapOf asks the handler of the proxy o for its trap.
func trapOf(h *heap.Heap, o, which int) (trap, error) {
	p, _ := partsOf(h, o)
	x := trap{h: h, target: p.target.Id, handler: p.handler}
	if x.handler.Kind != api.KRef {
		return trap{}, typeError()
	}
	f, err := convert.Method(h, x.handler, api.Key{Str: names[which]})
	if err != nil {
		return trap{}, err
	}
	x.f = f
	return x, nil
}

func (x trap) missing() bool { return x.f.Kind == api.KUndefined }

// call is what the trap answers of the target and further arguments.
func (x trap) call(args ...api.Value) (api.Value, error) {
	return x.h.Call(x.f.Id, x.handler, append([]api.Value{value.Ref(x.target)}, args...))
}

// truthy is whether what the trap answers is truthy.
func (x trap) truthy(args ...api.Value) (bool, error) {
	r, err := x.call(args...)
	if err != nil {
		return false, err
	}
	ok, _ := value.Truth(r)
	return ok, nil
}
