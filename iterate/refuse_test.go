package iterate_test

// What is refused ahead of anything else, and which refusal comes first: nothing is spent, and nothing is changed.

import (
	"cmp"
	"math"
	"testing"

	"cameo/api"
	"cameo/heap"
)

// fault is a value, and what it is refused with; OK, if it is not.
type fault struct {
	v api.Value
	e api.Errno
}

// faults is values that the heap has not, or that are not well formed.
func faults() []fault {
	var l []fault
	for _, v := range broken() {
		l = append(l, fault{v, api.ErrValue})
	}
	for _, v := range strangers() {
		l = append(l, fault{v, api.ErrRef})
	}
	for _, o := range nobody() {
		e := api.ErrRef
		if o < 1 || o > api.MaxObjects {
			e = api.ErrValue
		}
		l = append(l, fault{ref(o), e})
	}
	return l
}

// sound is these, and values of every kind.
func sound() []fault {
	l := faults()
	for _, v := range anything() {
		l = append(l, fault{v, api.OK})
	}
	return l
}

// protos is these, as prototypes.
func protos() []fault {
	l := sound()
	for i, f := range l {
		if f.e == api.OK && f.v.Kind != api.KNull && f.v.Kind != api.KRef {
			l[i].e = api.ErrValue
		}
	}
	return l
}

// objects is numbers of objects, and of none.
func objects() []fault {
	l := []fault{{ref(asked), api.OK}, {ref(iter), api.OK}, {ref(body), api.OK}}
	for _, o := range nobody() {
		l = append(l, fault{api.Value{Id: o}, api.ErrRef})
	}
	return l
}

// refused is an act that comes to nothing but an error: nobody is asked, nothing is made. All that can be seen is held against what it was but now and then, because there are many of these.
func (x act) refused(t *testing.T, h *heap.Heap, d *diary, want api.Errno) {
	t.Helper()
	n := h.Len()
	if d.fuel++; d.fuel%50 == 0 {
		x.stays(t, h, 0, nil, want)
	} else {
		x.is(t, h, 0, nil, want)
	}
	if h.Len() != n || len(d.lines) > 0 {
		t.Fatalf("%v: %d objects made, %q", x, h.Len()-n, d.lines)
	}
}

// stages is such with fuel and room, and without.
func stages() []stage { return []stage{{0, 9, 0}, {100, 9, 0}, {0, 9, 5}, {100, 1, 5}} }

func TestMakerRefuses(t *testing.T) {
	t.Parallel()
	for _, s := range stages() {
		h, d := protocol().staged(t, s)
		for _, proto := range protos() {
			ask("Next", proto.v).orRefused(t, s, h, d, proto.e)
			for _, kind := range []int{api.IKeys, api.IValues, api.IEntries, 0, -1, 4, 5, math.MinInt, math.MaxInt, 1<<32 + 1} {
				e := api.ErrRange
				if kind == api.IKeys || kind == api.IValues || kind == api.IEntries {
					e = api.OK
				}
				for _, its := range protos() {
					makes(proto.v, kind, its.v).orRefused(t, s, h, d, cmp.Or(proto.e, e, its.e))
				}
			}
		}
	}
}

// orRefused is an act that makes one object, unless it is refused, or there is no room. What it makes is held against what it must be by other tests.
func (x act) orRefused(t *testing.T, s stage, h *heap.Heap, d *diary, e api.Errno) {
	t.Helper()
	switch {
	case e != api.OK:
		x.refused(t, h, d, e)
	case s.room == 0:
		x.refused(t, h, d, api.ErrFull)
	}
}

func TestValuesRefused(t *testing.T) {
	t.Parallel()
	for _, s := range stages() {
		h, d := protocol().staged(t, s)
		for _, v := range faults() {
			for _, name := range []string{"Get", "List", "ForIn"} {
				ask(name, v.v).refused(t, h, d, v.e)
			}
			for done := range 2 {
				results(v.v, done).refused(t, h, d, v.e)
			}
		}
	}
}

// Of ForOf v counts ahead of f, and that it can be called behind both; whether v has an iterator, or is an object, is not asked then.
func TestForOfRefuses(t *testing.T) {
	t.Parallel()
	for _, s := range stages() {
		h, d := protocol().staged(t, s)
		for _, v := range sound() {
			for _, f := range sound() {
				kind := api.ErrKind
				if h.Callable(f.v) {
					kind = api.OK
				}
				if e := cmp.Or(v.e, f.e, kind); e != api.OK {
					ask("ForOf", v.v, f.v).refused(t, h, d, e)
				}
			}
		}
	}
}

// Of Step and Close the object counts ahead of next, and both ahead of what the iterator or the cause is.
func TestIteratorsRefused(t *testing.T) {
	t.Parallel()
	for _, s := range stages() {
		h, d := protocol().staged(t, s)
		for _, o := range objects() {
			for _, next := range sound() {
				e := cmp.Or(o.e, next.e)
				if e == api.OK {
					continue
				}
				steps(o.v.Id, next.v).refused(t, h, d, e)
				for _, cause := range causes() {
					closes(o.v.Id, next.v, cause).refused(t, h, d, e)
				}
			}
		}
	}
}

// What is no function is not asked for the next value; a TypeError, for nothing. Close does not look at it.
func TestStepOfNoFunction(t *testing.T) {
	for _, s := range stages() {
		h, d := protocol().staged(t, s)
		for _, v := range anything() {
			if !h.Callable(v) {
				steps(iter, v).stays(t, h, 0, nil, typeError())
				closes(iter, v, api.ErrLong).stays(t, h, 0, nil, api.ErrLong)
			}
		}
		if len(d.lines) > 0 {
			t.Errorf("23.5: %q", d.lines)
		}
	}
}

// Without fuel each act ends at the first thing that it enters.
func TestNoFuel(t *testing.T) {
	h, d := protocol().staged(t, stage{0, 9, 5})
	for _, x := range []act{ask("Get", ref(asked)), ask("List", ref(asked)), ask("ForOf", ref(asked), ref(body)), ask("ForIn", ref(asked)), steps(iter, ref(goes)), closes(iter, ref(goes), nil), closes(iter, ref(goes), thrown(num(1)))} {
		x.stays(t, h, 0, nil, api.ErrFuel)
	}
	results(num(1), 0).adds(t, h, 0, h.Len()+1, nil, result(num(1), no()))
	if len(d.lines) > 0 {
		t.Errorf("%q", d.lines)
	}
}
