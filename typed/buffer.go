package typed

import (
	"cameo/api"
	"cameo/heap"
)

// buffer is what a buffer alone has. One without bytes may be detached or not.
type buffer struct {
	bytes    []byte
	detached bool
}

// bufferOf is what the buffer b has within.
func bufferOf(h *heap.Heap, b int) (*buffer, api.Errno) {
	if _, e := h.Class(b); e != api.OK {
		return nil, e
	}
	m, ok := h.Own(b).(*buffer)
	if !ok {
		return nil, api.ErrKind
	}
	return m, api.OK
}

// part is n bytes as they lie in a buffer, from a place on; false, if it has not so many. Nothing is added here, where a sum could wrap round.
func (m *buffer) part(at, n int) ([]byte, bool) {
	if at < 0 || at > len(m.bytes)-n {
		return nil, false
	}
	return m.bytes[at : at+n], true
}

// live is n bytes as they lie in a buffer that is not detached.
func (m *buffer) live(at, n int) ([]byte, error) {
	if m.detached {
		return nil, typeError()
	}
	l, ok := m.part(at, n)
	if !ok {
		return nil, rangeError()
	}
	return l, nil
}

// fits tells whether elements of a size can lie there, from a place on that is not below 0. Nothing is multiplied here, where a product could wrap round.
func (m *buffer) fits(at, length, size int) bool {
	return at%size == 0 && at <= len(m.bytes) && length <= (len(m.bytes)-at)/size
}
