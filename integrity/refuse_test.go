package integrity_test

// What is refused ahead of anything else, and which refusal comes first: nothing is spent, and nothing is changed.

import (
	"testing"

	"cameo/api"
	"cameo/heap"
)

// refusing is a heap whose objects 1 to 5 lead to each other; nothing of it may change.
func refusing(t *testing.T, fuel int) *heap.Heap {
	t.Helper()
	h := newHeap(t, 60, fuel, 2)
	object(t, h, null(), has("a", ref(2)))
	for o := 1; o < 5; o++ {
		object(t, h, ref(o), has("a", ref(1)))
	}
	return h
}

// An object that the heap has not.
func TestNobody(t *testing.T) {
	for _, fuel := range []int{0, 1, 100} {
		h := refusing(t, fuel)
		for _, o := range nobody() {
			for _, x := range []act{seal(o), freeze(o), isSealed(o), isFrozen(o)} {
				x.stays(t, h, 0, nil, api.ErrRef)
			}
		}
	}
	h := newHeap(t, 0, 10, 1)
	for _, x := range []act{seal(1), freeze(1), isSealed(1), isFrozen(1)} {
		x.stays(t, h, 0, nil, api.ErrRef)
	}
}

// valued is the calls that are given a value, with every level, known or not; each with whether that is one that it asks for.
func valued(v api.Value) map[bool][]act {
	m := map[bool][]act{true: {harden(v)}}
	for _, n := range levels() {
		m[true] = append(m[true], fixing(v, n), fixedness(v, n))
	}
	for _, n := range noLevels() {
		m[false] = append(m[false], fixing(v, n), fixedness(v, n))
	}
	return m
}

// A value that is none of the heap, with levels that are such and that are none: the value is asked for first.
func TestNoValue(t *testing.T) {
	for _, fuel := range []int{0, 100} {
		h := refusing(t, fuel)
		for _, v := range broken() {
			for _, l := range valued(v) {
				for _, x := range l {
					x.is(t, h, 0, nil, api.ErrValue)
				}
			}
		}
		for _, v := range strangers() {
			for _, l := range valued(v) {
				for _, x := range l {
					x.is(t, h, 0, nil, api.ErrRef)
				}
			}
		}
		if !sameMoment(now(h), now(refusing(t, fuel))) {
			t.Errorf("something is changed: %v", now(h))
		}
	}
}

// A level that is none, with any value, also one that is no object: nothing has been asked by then.
func TestNoLevel(t *testing.T) {
	for _, fuel := range []int{0, 100} {
		h := refusing(t, fuel)
		for _, v := range append(plain(), ref(1), ref(3), ref(5)) {
			for _, x := range valued(v)[false] {
				x.is(t, h, 0, nil, api.ErrRange)
			}
		}
		if !sameMoment(now(h), now(refusing(t, fuel))) {
			t.Errorf("something is changed: %v", now(h))
		}
	}
}

// Levels from -20 to 20: there are three.
func TestLevels(t *testing.T) {
	for n := -20; n <= 20; n++ {
		h := refusing(t, 100)
		known := n == api.LShut || n == api.LSealed || n == api.LFrozen
		_, err := fixing(ref(1), n).played(h)
		_, also := fixedness(ref(1), n).played(h)
		if known && (err != nil || also != nil) || !known && (err != api.ErrRange || also != api.ErrRange) {
			t.Errorf("21.4: %d: %v, %v", n, err, also)
		}
	}
}

// Of what is no object nothing is asked, whatever fuel there is.
func TestPlainValues(t *testing.T) {
	for _, fuel := range []int{0, 1, 100} {
		h := refusing(t, fuel)
		for _, v := range plain() {
			for _, n := range levels() {
				fixing(v, n).is(t, h, 0, v, nil)
				fixedness(v, n).is(t, h, 0, true, nil)
			}
			harden(v).is(t, h, 0, []int(nil), nil)
		}
		if !sameMoment(now(h), now(refusing(t, fuel))) {
			t.Errorf("something is changed: %v", now(h))
		}
	}
}

// The last and the first object of a heap are there; without fuel they are still not asked.
func TestWithoutFuel(t *testing.T) {
	h := refusing(t, 0)
	for _, o := range []int{1, 5} {
		l := append([]act{seal(o), freeze(o), isSealed(o), isFrozen(o)}, valued(ref(o))[true]...)
		for _, x := range l {
			x.stays(t, h, 0, nil, api.ErrFuel)
		}
	}
}
