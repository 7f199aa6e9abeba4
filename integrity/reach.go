package integrity

import (
	"cameo/api"
	"cameo/heap"
)

// reach is objects that one has come to, each once.
type reach struct {
	list []int            // in the order in which one came to them
	in   map[int]struct{} // the same ones, to be found
}

func newReach() *reach { return &reach{in: map[int]struct{}{}} }

// add puts the objects among some values behind all that it has.
func (r *reach) add(l ...api.Value) {
	for _, v := range l {
		if v.Kind != api.KRef {
			continue
		}
		if _, ok := r.in[v.Id]; !ok {
			r.in[v.Id] = struct{}{}
			r.list = append(r.list, v.Id)
		}
	}
}

// from adds what an object leads to.
func (r *reach) from(h *heap.Heap, o int) error {
	proto, err := h.GetPrototypeOf(o)
	if err != nil {
		return err
	}
	r.add(proto)
	_, err = properties(h, o, func(d api.Desc) bool {
		r.add(d.Value, d.Get, d.Set)
		return true
	})
	return err
}
