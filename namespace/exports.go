package namespace

import (
	"slices"
	"strings"

	"cameo/api"
	"cameo/heap"
	"cameo/units"
)

// exports is what a namespace alone has. Which names there are never changes.
type exports struct {
	list   []binding      // by the units of their names
	places map[string]int // of each name, where it stands in list
}

// binding is a name and its value, which is none, while it is bound to nothing yet.
type binding struct {
	name  string
	value api.Value
}

// newExports is exports that are bound to nothing yet, of names that are strings, each of which stands once.
func newExports(names []string) *exports {
	x := &exports{list: make([]binding, 0, len(names)), places: make(map[string]int, len(names))}
	for _, s := range names {
		x.list = append(x.list, binding{name: strings.Clone(s)})
	}
	slices.SortFunc(x.list, byUnits)
	for i, b := range x.list {
		x.places[b.name] = i
	}
	return x
}

// byUnits is the order of exports: that of their names' bytes would be another one.
func byUnits(a, b binding) int {
	n, _ := units.Compare(a.name, b.name)
	return n
}

// exportsOf is what a namespace has; false, if o is none.
func exportsOf(h *heap.Heap, o int) (*exports, bool) {
	x, ok := h.Own(o).(*exports)
	return x, ok
}

// find is the export of a name; false, if there is none.
func (x *exports) find(name string) (binding, bool) {
	i, ok := x.places[name]
	if !ok {
		return binding{}, false
	}
	return x.list[i], true
}

// bind gives an export a value, which is known to be one of the heap.
func (x *exports) bind(name string, v api.Value) api.Errno {
	i, ok := x.places[name]
	if !ok {
		return api.ErrRange
	}
	x.list[i].value = anew(v)
	return api.OK
}

// read is what an export is bound to, as it is handed out.
func (b binding) read() (api.Value, error) {
	if b.value.Kind == api.KNone {
		return api.Value{}, referenceError()
	}
	return anew(b.value), nil
}

// anew is a value as it is kept, or handed out: its string is new memory.
func anew(v api.Value) api.Value {
	v.Str = strings.Clone(v.Str)
	return v
}
