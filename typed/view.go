package typed

import (
	"math"

	"cameo/api"
	"cameo/convert"
	"cameo/heap"
)

// view is what a typed array alone has. Its buffer is known by its number, and asked anew each time: its bytes may be gone.
type view struct{ buffer, kind, at, length int }

// viewOf is what the typed array o has within.
func viewOf(h *heap.Heap, o int) (view, api.Errno) {
	if _, e := h.Class(o); e != api.OK {
		return view{}, e
	}
	w, ok := h.Own(o).(view)
	if !ok {
		return view{}, api.ErrKind
	}
	return w, api.OK
}

// bytes is the bytes of the element x as they lie in the buffer; false, if it is not there.
func (w view) bytes(h *heap.Heap, x float64) ([]byte, bool) {
	if math.Signbit(x) || math.Trunc(x) != x || x >= float64(w.length) {
		return nil, false
	}
	m, _ := bufferOf(h, w.buffer)
	return m.part(w.at+int(x)*Size(w.kind), Size(w.kind))
}

// there tells whether the element x is there.
func (w view) there(h *heap.Heap, x float64) bool {
	_, ok := w.bytes(h, x)
	return ok
}

// get is the element x; false, if it is not there.
func (w view) get(h *heap.Heap, x float64) (float64, bool) {
	l, ok := w.bytes(h, x)
	if !ok {
		return 0, false
	}
	return numberOf(w.kind, l, true), true
}

// give gives the element x a value, which is asked ahead of anything else, whether the element is there or not.
func (w view) give(h *heap.Heap, x float64, v api.Value) error {
	n, err := convert.Number(h, v)
	if err != nil {
		return err
	}
	if l, ok := w.bytes(h, x); ok {
		copy(l, bytesOf(w.kind, n, true))
	}
	return nil
}

// count is how many elements a typed array tells of.
func (w view) count(h *heap.Heap) int {
	if m, _ := bufferOf(h, w.buffer); m.detached {
		return 0
	}
	return w.length
}
