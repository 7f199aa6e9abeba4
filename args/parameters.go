package args

import (
	"strings"

	"cameo/api"
	"cameo/heap"
	"cameo/key"
	"cameo/value"
)

// parameters is what a mapped arguments object alone has.
type parameters struct {
	list   []parameter    // in the order of their first places
	places map[string]int // of each name, where its parameter stands in list
	ties   map[int]int    // of each index that is tied, where its parameter stands in list
}

// parameter is a name and its value.
type parameter struct {
	name  string
	value api.Value
	last  int // the last place at which the name stands: the one index that may be tied to it
}

// parametersOf is an object's parameters.
func parametersOf(h *heap.Heap, o int) (*parameters, api.Errno) {
	if _, e := h.Class(o); e != api.OK {
		return nil, e
	}
	p, ok := h.Own(o).(*parameters)
	if !ok {
		return nil, api.ErrKind
	}
	return p, api.OK
}

// slot is an object's parameters, and where among them one stands that has a name.
func slot(h *heap.Heap, o int, name string) (*parameters, int, api.Errno) {
	p, e := parametersOf(h, o)
	if e != api.OK {
		return nil, 0, e
	}
	n, ok := p.places[name]
	if !ok {
		return nil, 0, api.ErrRange
	}
	return p, n, api.OK
}

func newParameters(l []api.Value, names []string) *parameters {
	p := &parameters{places: map[string]int{}, ties: map[int]int{}}
	for i, s := range names {
		n := p.place(s) // ahead of the list being read: it may be longer behind that
		p.list[n].last = i
	}
	for n := range p.list {
		p.begin(n, l)
	}
	return p
}

// place is where the parameter of a name stands: behind all others, if it is new.
func (p *parameters) place(name string) int {
	n, ok := p.places[name]
	if ok {
		return n
	}
	name = strings.Clone(name)
	p.list = append(p.list, parameter{name: name})
	p.places[name] = len(p.list) - 1
	return p.places[name]
}

// begin gives a parameter its first value, and ties it, if there is a member for it.
func (p *parameters) begin(n int, l []api.Value) {
	x := &p.list[n]
	x.value = value.Undefined()
	if x.last < len(l) {
		x.value = l[x.last]
		p.ties[x.last] = n
	}
}

func (p *parameters) names() []string {
	l := make([]string, 0, len(p.list))
	for _, x := range p.list {
		l = append(l, strings.Clone(x.name))
	}
	return l
}

// tied is where the parameter stands to which a key is tied; false, if it is tied to none.
func (p *parameters) tied(k api.Key) (int, bool) {
	i, ok := key.Index(k.Str)
	if !ok {
		return 0, false
	}
	n, ok := p.ties[int(i)]
	return n, ok
}

// give makes v a parameter's value; and what lies under the index that is tied to it has that value, too, from the same moment on.
func (p *parameters) give(h *heap.Heap, o, n int, v api.Value) {
	x := &p.list[n]
	x.value = v
	if _, ok := p.ties[x.last]; ok {
		unmapped{}.lay(h, o, key.FromIndex(uint32(x.last)), api.Desc{Value: v})
	}
}

// follow gives a parameter what the index that is tied to it was defined as.
func (p *parameters) follow(n int, d api.Desc) {
	if d.Value.Kind != api.KNone {
		p.list[n].value = d.Value
	}
	if accessor(d) || d.Writable == api.No {
		p.loosen(n)
	}
}

// accessor tells whether a descriptor, which is well formed, is of an accessor: desc.Accessor would look through all of its string.
func accessor(d api.Desc) bool { return d.Get.Kind != api.KNone || d.Set.Kind != api.KNone }

// loosen takes a parameter's tie away, for ever.
func (p *parameters) loosen(n int) { delete(p.ties, p.list[n].last) }
