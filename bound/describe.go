package bound

import (
	"cameo/api"
	"cameo/heap"
	"cameo/number"
	"cameo/units"
	"cameo/value"
)

// describe gives the bound function o its length and its name, by those of its target f, which has been given n arguments. One is laid there ahead of the other one being asked for.
func describe(h *heap.Heap, o, f, n int) error {
	length, err := lengthOf(h, f, n)
	if err != nil {
		return err
	}
	function{}.lay(h, o, "length", value.Num(length))
	name, err := nameOf(h, f)
	if err != nil {
		return err
	}
	function{}.lay(h, o, "name", value.Str(name))
	return nil
}

// lay gives a new bound function a property, nothing being entered.
func (m function) lay(h *heap.Heap, o int, name string, v api.Value) {
	d := api.Desc{Value: v, Writable: api.No, Enumerable: api.No, Configurable: api.Yes}
	m.DefineOwnProperty(h, o, api.Key{Str: name}, d)
}

// lengthOf is how many arguments a function waits for that has been given n. A length that is not its own says nothing about it.
func lengthOf(h *heap.Heap, f, n int) (float64, error) {
	_, own, err := h.GetOwnProperty(f, api.Key{Str: "length"})
	if !own || err != nil {
		return 0, err
	}
	v, err := get(h, value.Ref(f), "length")
	if err != nil || v.Kind != api.KNum {
		return 0, err
	}
	return max(number.Integer(v.Num)-float64(n), 0), nil // infinities stay what they are, less n
}

// nameOf is the name of what is bound to a function.
func nameOf(h *heap.Heap, f int) (string, error) {
	v, err := get(h, value.Ref(f), "name")
	if err != nil {
		return "", err
	}
	s, e := units.Concat("bound ", v.Str) // Str is empty of what is no string
	if e != api.OK {
		return "", &api.Thrown{Kind: api.XRange}
	}
	return s, nil
}

// get is what an object has under a name, asked of itself.
func get(h *heap.Heap, o api.Value, name string) (api.Value, error) {
	return h.Get(o.Id, api.Key{Str: name}, o)
}
