package iterate

import (
	"cameo/api"
	"cameo/array"
	"cameo/heap"
	"cameo/key"
	"cameo/records"
	"cameo/typed"
	"cameo/value"
)

// cursor is what an array iterator alone has.
type cursor struct {
	kind   int
	object int   // what it goes through; 0, once it is at its end
	number int64 // of the member that comes next
	asked  bool  // a step is under way
}

// cursorOf is what an array iterator has within; false, if v is none.
func cursorOf(h *heap.Heap, v api.Value) (*cursor, bool) {
	if v.Kind != api.KRef {
		return nil, false
	}
	c, ok := h.Own(v.Id).(*cursor)
	return c, ok
}

// making is what a function that makes array iterators alone has. Nothing of it ever changes.
type making struct {
	kind int
	its  api.Value // the iterators' prototype
}

// maker is the methods of a function that makes array iterators.
type maker struct{ heap.Ordinary }

// Call makes one.
func (maker) Call(h *heap.Heap, f int, this api.Value, _ []api.Value) (api.Value, error) {
	if this.Kind != api.KRef {
		return api.Value{}, typeError()
	}
	m, _ := h.Own(f).(making)
	return ref(h.Add(api.CIterator, m.its, heap.Ordinary{}, &cursor{kind: m.kind, object: this.Id}))
}

// asker is the methods of a function that asks array iterators.
type asker struct{ heap.Ordinary }

// Call asks one, which is not asked within itself.
func (asker) Call(h *heap.Heap, _ int, this api.Value, _ []api.Value) (api.Value, error) {
	c, ok := cursorOf(h, this)
	if !ok || c.asked {
		return api.Value{}, typeError()
	}
	c.asked = true
	defer func() { c.asked = false }()
	return ref(c.step(h))
}

// step is what is answered next. What throws ends the iterator; what stops leaves it as it is, to be asked again.
func (c *cursor) step(h *heap.Heap) (int, error) {
	r, err := c.answer(h)
	switch err.(type) {
	case *api.Thrown:
		c.object = 0
	}
	return r, err
}

func (c *cursor) answer(h *heap.Heap) (int, error) {
	more, err := c.more(h)
	if err != nil {
		return 0, err
	}
	if !more {
		c.object = 0
		return result(h, value.Undefined(), true)
	}
	n := value.Num(float64(c.number))
	c.number++
	v, err := c.member(h, n)
	if err != nil {
		return 0, err
	}
	return result(h, v, false)
}

// more tells whether there is a member left.
func (c *cursor) more(h *heap.Heap) (bool, error) {
	if c.object == 0 {
		return false, nil
	}
	n, err := length(h, c.object)
	return c.number < n, err
}

// member is what is told of the member with the number n.
func (c *cursor) member(h *heap.Heap, n api.Value) (api.Value, error) {
	if c.kind == api.IKeys {
		return n, nil
	}
	k, _ := key.Of(n)
	v, err := h.Get(c.object, k, value.Ref(c.object))
	if err != nil || c.kind == api.IValues {
		return v, err
	}
	return ref(array.Of(h, value.Null(), []api.Value{n, v}))
}

// length is how long an object is. A typed array is not asked: it knows.
func length(h *heap.Heap, o int) (int64, error) {
	parts, e := typed.Parts(h, o)
	if e != api.OK {
		return records.Length(h, value.Ref(o))
	}
	if detached(h, parts[0]) {
		return 0, typeError()
	}
	return int64(parts[3]), nil
}

// detached tells whether a buffer is: then reading of it is a TypeError, which it is not of one that merely has no bytes.
func detached(h *heap.Heap, b int) bool {
	_, err := typed.Read(h, b, 0, api.TUint8, true)
	switch x := err.(type) {
	case *api.Thrown:
		return x.Kind == api.XType
	}
	return false
}
