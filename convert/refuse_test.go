package convert_test

// 12.1: what is refused first, ahead of anything being done.

import (
	"math"
	"testing"

	"cameo/api"
	"cameo/convert"
	"cameo/heap"
)

// guarded is a heap whose object 1 fails the test when it is asked for anything; there are two objects.
func guarded(t *testing.T) *heap.Heap {
	t.Helper()
	h := newHeap(t, 2, 50, 5)
	made(t, h, null())
	f := addNative(t, h, func(api.Value, []api.Value) (api.Value, error) {
		t.Error("12.1: an object was asked ahead of a refusal")
		return null(), nil
	})
	lay(t, h, 1, toPrimitive, api.Desc{Get: f})
	return h
}

// refused is an act that must be refused so, with nothing changed.
func (x act) refused(t *testing.T, h *heap.Heap, want api.Errno, a, b api.Value) {
	t.Helper()
	before, fuel := h.Shapes(), h.Fuel()
	v, err := x.do(h, a, b)
	if v != (api.Value{}) || err != want {
		t.Errorf("12.1: %s of %v, %v: %v, %v, want %v", x.name, a.Kind, b.Kind, v, err, want)
	}
	if h.Fuel() != fuel || !sameShapes(h.Shapes(), before) {
		t.Errorf("12.1: %s of %v, %v has changed something", x.name, a.Kind, b.Kind)
	}
}

func strangers() []api.Value { return []api.Value{ref(3), ref(4), ref(65536)} }

func TestRefusedValues(t *testing.T) {
	h := guarded(t)
	for _, x := range acts() {
		for _, v := range broken() {
			x.refused(t, h, api.ErrValue, v, v)
			x.refused(t, h, api.ErrValue, v, ref(1))
		}
		for _, v := range strangers() {
			x.refused(t, h, api.ErrRef, v, v)
			x.refused(t, h, api.ErrRef, v, ref(1))
		}
	}
}

// The first value counts, though it is the last to be asked.
func TestRefusedSecond(t *testing.T) {
	h := guarded(t)
	for _, x := range acts() {
		if !x.two {
			continue
		}
		for _, v := range broken() {
			for _, w := range append(plain(), ref(1), ref(2)) {
				x.refused(t, h, api.ErrValue, w, v)
				x.refused(t, h, api.ErrValue, v, w)
			}
			for _, w := range strangers() {
				x.refused(t, h, api.ErrRef, w, v)
				x.refused(t, h, api.ErrValue, v, w)
			}
		}
		for _, w := range append(plain(), ref(1), ref(2)) {
			x.refused(t, h, api.ErrRef, w, ref(3))
			x.refused(t, h, api.ErrRef, ref(3), w)
		}
	}
}

func TestRefusedKeys(t *testing.T) {
	h := guarded(t)
	for _, k := range brokenKeys() {
		x := methodAct(k)
		for _, v := range append(plain(), ref(1), ref(2)) {
			x.refused(t, h, api.ErrValue, v, null())
		}
		for _, v := range broken() {
			x.refused(t, h, api.ErrValue, v, null())
		}
		x.refused(t, h, api.ErrRef, ref(3), null())
	}
}

func TestRefusedHints(t *testing.T) {
	h := guarded(t)
	for _, hint := range []int{-1, 3, 4, 256, math.MinInt, math.MaxInt} {
		x := primitiveAct(hint)
		for _, v := range append(plain(), ref(1), ref(2)) {
			x.refused(t, h, api.ErrRange, v, null())
		}
		for _, v := range broken() {
			x.refused(t, h, api.ErrValue, v, null())
		}
		x.refused(t, h, api.ErrRef, ref(3), null())
	}
}

// An error is told as it is, not as an error that holds none.
func TestNoErrorIsNil(t *testing.T) {
	h := newHeap(t, 0, 0, 1)
	if _, err := convert.Primitive(h, null(), api.HintDefault); err != nil {
		t.Error(err)
	}
	for _, x := range acts()[3:] {
		if _, err := x.do(h, num(1), num(1)); err != nil {
			t.Errorf("%s: %v", x.name, err)
		}
	}
}
