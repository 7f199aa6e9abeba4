package iterate

import (
	"strings"

	"cameo/api"
	"cameo/heap"
)

// names is what a for-in loop has met so far, and what it tells of that.
type names struct {
	met  map[string]struct{}
	told []api.Key
}

// chain goes from an object to its prototypes, asking each one for the next.
func (l *names) chain(h *heap.Heap, v api.Value) error {
	for v.Kind == api.KRef {
		if err := l.object(h, v.Id); err != nil {
			return err
		}
		proto, err := h.GetPrototypeOf(v.Id)
		if err != nil {
			return err
		}
		v = proto
	}
	return nil
}

// object meets what an object has now; a program that it runs may take away what has not been met yet.
func (l *names) object(h *heap.Heap, o int) error {
	keys, err := h.OwnPropertyKeys(o)
	if err != nil {
		return err
	}
	for _, k := range keys {
		if err := l.meet(h, o, k); err != nil {
			return err
		}
	}
	return nil
}

// meet tells a property, if it can be seen. One that cannot hides those of its name behind it all the same.
func (l *names) meet(h *heap.Heap, o int, k api.Key) error {
	if _, met := l.met[k.Str]; met || k.Sym != 0 {
		return nil
	}
	d, there, err := h.GetOwnProperty(o, k)
	if !there || err != nil {
		return err
	}
	l.met[k.Str] = struct{}{}
	if d.Enumerable != api.Yes {
		return nil
	}
	if len(l.told) == api.MaxObjects {
		return api.ErrLong
	}
	l.told = append(l.told, api.Key{Str: strings.Clone(k.Str)})
	return nil
}
