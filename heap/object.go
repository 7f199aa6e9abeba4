package heap

import (
	"cmp"

	"cameo/api"
	"cameo/table"
)

// object is what lies in a heap under a number.
type object struct {
	class      int
	proto      api.Value // null, or an object of the heap
	extensible bool
	props      *table.Table // whole descriptors
	methods    Methods
	own        any // what its class alone has
}

// Methods is what an object does once a method of it is entered. Methods keep nothing themselves, so that objects of one class may share them: o is the object, which h has.
type Methods interface {
	GetPrototypeOf(h *Heap, o int) (api.Value, error)
	SetPrototypeOf(h *Heap, o int, v api.Value) (bool, error)
	IsExtensible(h *Heap, o int) (bool, error)
	PreventExtensions(h *Heap, o int) (bool, error)
	GetOwnProperty(h *Heap, o int, k api.Key) (api.Desc, bool, error)
	DefineOwnProperty(h *Heap, o int, k api.Key, d api.Desc) (bool, error)
	HasProperty(h *Heap, o int, k api.Key) (bool, error)
	Get(h *Heap, o int, k api.Key, receiver api.Value) (api.Value, error)
	Set(h *Heap, o int, k api.Key, v, receiver api.Value) (bool, error)
	Delete(h *Heap, o int, k api.Key) (bool, error)
	OwnPropertyKeys(h *Heap, o int) ([]api.Key, error)
}

// Caller is methods of an object that can be called.
type Caller interface {
	Call(h *Heap, f int, this api.Value, args []api.Value) (api.Value, error)
}

// Builder is methods of an object that can be constructed.
type Builder interface {
	Construct(h *Heap, f int, args []api.Value, target int) (int, error)
}

// Add is a new object of any class, extensible, without properties; what it can and what its class alone has come from the class's layer.
func (h *Heap) Add(class int, proto api.Value, m Methods, own any) (int, error) {
	if e := cmp.Or(h.Check(proto), protoKind(proto), h.room()); e != api.OK {
		return 0, e
	}
	h.objects = append(h.objects, &object{class: class, proto: proto, extensible: true, props: table.New(), methods: m, own: own})
	return h.Len(), nil
}

// Own is what an object's class alone has; nil, if there is nothing such, or no object o. Its layer asks by an assertion whether it is its own.
func (h *Heap) Own(o int) any {
	if !h.has(o) {
		return nil
	}
	return h.at(o).own
}

func (h *Heap) has(o int) bool { return o >= 1 && o <= h.Len() }

// at is the object o, which the heap has.
func (h *Heap) at(o int) *object { return h.objects[o-1] }

func (x *object) shape() api.Shape {
	return api.Shape{Class: x.class, Proto: x.proto, Extensible: x.extensible, Props: x.props.Props()}
}

// leads tells whether one comes from v to the object o, going from prototype to prototype. What a proxy's prototype is nobody knows ahead of asking it: there it ends.
func (h *Heap) leads(v api.Value, o int) bool {
	for v.Kind == api.KRef && v.Id != o {
		x := h.at(v.Id)
		if x.class == api.CProxy {
			return false
		}
		v = x.proto
	}
	return v.Kind == api.KRef
}

// ownProperty is an object's own property as its class has it, without being entered.
func (h *Heap) ownProperty(o int, k api.Key) (api.Desc, bool, error) {
	return h.at(o).methods.GetOwnProperty(h, o, k)
}

// accessor tells whether a descriptor, which is whole, is of an accessor: desc.Accessor would look through all of its string.
func accessor(d api.Desc) bool { return d.Get.Kind != api.KNone }

// open is data that anybody may change.
func open(v api.Value) api.Desc {
	return api.Desc{Value: v, Writable: api.Yes, Enumerable: api.Yes, Configurable: api.Yes}
}
