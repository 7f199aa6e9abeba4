package namespace

import (
	"strings"

	"cameo/api"
	"cameo/desc"
	"cameo/heap"
	"cameo/value"
)

// methods is the methods of a namespace: the ordinary ones, of which those are turned that have to do with keys. The others say what they must by themselves, because a namespace is laid as what has no prototype and is not extensible. Symbols are handed on to the ordinary ones, which tell what lies there.
type methods struct{ heap.Ordinary }

// lay makes what was added a namespace: its tag lies there, and nothing else ever will.
func (m methods) lay(h *heap.Heap, o int) {
	d := api.Desc{Value: value.Str("Module"), Writable: api.No, Enumerable: api.No, Configurable: api.No}
	m.Ordinary.DefineOwnProperty(h, o, api.Key{Sym: api.SymToStringTag}, d)
	m.PreventExtensions(h, o)
}

// export is the export of a key that is no symbol; false, if there is none.
func (methods) export(h *heap.Heap, o int, k api.Key) (binding, bool) {
	x, _ := exportsOf(h, o)
	return x.find(k.Str)
}

func isSymbol(k api.Key) bool { return k.Sym != 0 }

// GetOwnProperty is an export as data that seems to be writable, because it may be bound anew; its value is asked for by entering Get.
func (m methods) GetOwnProperty(h *heap.Heap, o int, k api.Key) (api.Desc, bool, error) {
	if isSymbol(k) {
		return m.Ordinary.GetOwnProperty(h, o, k)
	}
	if _, ok := m.export(h, o, k); !ok {
		return api.Desc{}, false, nil
	}
	v, err := h.Get(o, k, value.Ref(o))
	if err != nil {
		return api.Desc{}, false, err
	}
	return api.Desc{Value: v, Writable: api.Yes, Enumerable: api.Yes, Configurable: api.No}, true, nil
}

// DefineOwnProperty changes nothing: it is true of what an export is already.
func (m methods) DefineOwnProperty(h *heap.Heap, o int, k api.Key, d api.Desc) (bool, error) {
	if isSymbol(k) {
		return m.Ordinary.DefineOwnProperty(h, o, k, d)
	}
	now, ok, err := h.GetOwnProperty(o, k)
	if !ok || err != nil {
		return false, err
	}
	return fits(now, d), nil
}

// fits tells whether each field that a descriptor has is what an export has there.
func fits(now, d api.Desc) bool {
	if d.Configurable == api.Yes || d.Enumerable == api.No || d.Writable == api.No || desc.Accessor(d) {
		return false
	}
	if d.Value.Kind == api.KNone {
		return true
	}
	same, _ := value.Same(d.Value, now.Value)
	return same
}

// HasProperty tells whether a key is an export, be it bound or not.
func (m methods) HasProperty(h *heap.Heap, o int, k api.Key) (bool, error) {
	if isSymbol(k) {
		return m.Ordinary.HasProperty(h, o, k)
	}
	_, ok := m.export(h, o, k)
	return ok, nil
}

// Get is what an export is bound to.
func (m methods) Get(h *heap.Heap, o int, k api.Key, receiver api.Value) (api.Value, error) {
	if isSymbol(k) {
		return m.Ordinary.Get(h, o, k, receiver)
	}
	b, ok := m.export(h, o, k)
	if !ok {
		return value.Undefined(), nil
	}
	return b.read()
}

// Set sets nothing, whatever the key and the receiver are.
func (methods) Set(*heap.Heap, int, api.Key, api.Value, api.Value) (bool, error) { return false, nil }

// Delete takes nothing away: it is true of what is not there.
func (m methods) Delete(h *heap.Heap, o int, k api.Key) (bool, error) {
	if isSymbol(k) {
		return m.Ordinary.Delete(h, o, k)
	}
	_, ok := m.export(h, o, k)
	return !ok, nil
}

// OwnPropertyKeys is the exports, among which array indices have no place of their own, and the symbols.
func (m methods) OwnPropertyKeys(h *heap.Heap, o int) ([]api.Key, error) {
	symbols, err := m.Ordinary.OwnPropertyKeys(h, o) // nothing else lies there
	if err != nil {
		return nil, err
	}
	x, _ := exportsOf(h, o)
	keys := make([]api.Key, 0, len(x.list)+len(symbols))
	for _, b := range x.list {
		keys = append(keys, api.Key{Str: strings.Clone(b.name)})
	}
	return append(keys, symbols...), nil
}
