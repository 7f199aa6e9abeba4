package mirror_test

// What is refused ahead of anything else, and which refusal comes first: nothing is spent, and nothing is changed.

import (
	"maps"
	"slices"
	"testing"

	"cameo/api"
	"cameo/heap"
)

// names is all calls.
func names() []string { return slices.Sorted(maps.Keys(takes())) }

// refusing is a heap whose objects tell who asks them: 1 is a seer, 2 a function and constructor that is one, too, 3 an empty list.
func refusing(t *testing.T, fuel int) (*heap.Heap, *diary) {
	t.Helper()
	h, d := newHeap(t, 60, fuel, 9), &diary{}
	n, err := h.Add(api.COrdinary, null(), seer{}, d)
	made(t, n, err)
	n, err = h.Add(api.CNative, null(), maker{}, role{diary: d})
	made(t, n, err)
	object(t, h, null(), has("length", num(0)))
	return h, d
}

// refused is an act that comes to nothing but an error: nobody is asked, nothing is made.
func (x act) refused(t *testing.T, h *heap.Heap, d *diary, want error) {
	t.Helper()
	fuel := h.Fuel()
	x.is(t, h, 0, nil, want)
	if h.Len() != 3 || len(d.lines) > 0 || h.Fuel() != fuel {
		t.Fatalf("22.1: %v: %d objects, %q, %d spent", x, h.Len(), d.lines, fuel-h.Fuel())
	}
}

// Each place is one of: an object, a function, a value at which many calls throw, what is not well formed, and what the heap has not. The first one that is wrong counts, ahead of whatever else may be (22.1).
func TestFirstError(t *testing.T) {
	wrongs, far := broken(), strangers()
	for name, n := range takes() {
		for fuel := range 2 {
			h, d := refusing(t, 100*fuel)
			turn := 0
			choose := func(c int) (api.Value, error) {
				turn++
				switch c {
				case 3:
					return wrongs[turn%len(wrongs)], api.ErrValue
				case 4:
					return far[turn%len(far)], api.ErrRef
				}
				return []api.Value{ref(1), ref(2), undefined()}[c], nil
			}
			all := 1
			for range n {
				all *= 5
			}
			for i := range all {
				var v []api.Value
				var want error
				for j, rest := 0, i; j < n; j, rest = j+1, rest/5 {
					x, err := choose(rest % 5)
					v = append(v, x)
					if want == nil {
						want = err
					}
				}
				if want != nil {
					ask(name, v...).refused(t, h, d, want)
				}
			}
		}
	}
}

// Each value that is not well formed, and each object that the heap has not, in each place, behind values that are.
func TestEveryWrongValue(t *testing.T) {
	for name, n := range takes() {
		h, d := refusing(t, 100)
		for at := range n {
			for _, first := range append(plain(), ref(1), ref(2), ref(3)) {
				v := slices.Repeat([]api.Value{first}, n)
				for _, x := range broken() {
					v[at] = x
					ask(name, v...).refused(t, h, d, api.ErrValue)
				}
				for _, o := range nobody() {
					v[at] = ref(o)
					want := api.ErrRef
					if o < 1 || o > api.MaxObjects {
						want = api.ErrValue
					}
					ask(name, v...).refused(t, h, d, want)
				}
			}
		}
	}
}

// Of many sources the first one that is wrong counts, also behind such as are passed over.
func TestWrongSources(t *testing.T) {
	h, d := refusing(t, 100)
	for n := range 6 {
		v := slices.Concat([]api.Value{ref(1)}, slices.Repeat([]api.Value{undefined(), null(), ref(1)}, n))
		ask("Assign", append(slices.Clone(v), api.Value{}, ref(50))...).refused(t, h, d, api.ErrValue)
		ask("Assign", append(slices.Clone(v), ref(50), api.Value{})...).refused(t, h, d, api.ErrRef)
		ask("Assign", append(slices.Clone(v), ref(1), ref(1), ref(4))...).refused(t, h, d, api.ErrRef)
		v[0] = undefined()
		ask("Assign", append(slices.Clone(v), ref(50))...).refused(t, h, d, api.ErrRef)
		ask("Assign", v...).refused(t, h, d, typeError())
	}
}

// What is no object, where one is asked for: a TypeError ahead of anything being asked, whatever the other values are.
func TestNoObject(t *testing.T) {
	for fuel := range 2 {
		h, d := refusing(t, 100*fuel)
		for _, name := range reflects() {
			for _, v := range plain() {
				for _, other := range append(plain(), ref(1), ref(2), ref(3)) {
					l := slices.Repeat([]api.Value{other}, takes()[name])
					l[0] = v
					ask(name, l...).refused(t, h, d, typeError())
				}
			}
		}
	}
}

// undefined and null cannot be made objects.
func TestNothing(t *testing.T) {
	for fuel := range 2 {
		h, d := refusing(t, 100*fuel)
		for _, name := range makesObject() {
			for _, v := range []api.Value{undefined(), null()} {
				for _, other := range append(plain(), ref(1), ref(2), ref(3)) {
					l := slices.Repeat([]api.Value{other}, takes()[name])
					l[0] = v
					ask(name, l...).refused(t, h, d, typeError())
				}
			}
		}
		for _, o := range []api.Value{ref(1), ref(3)} {
			for _, v := range []api.Value{undefined(), null()} {
				ask("DefineProperties", o, v).refused(t, h, d, typeError())
			}
		}
	}
}

// A prototype is an object or null.
func TestNoPrototype(t *testing.T) {
	for fuel := range 2 {
		h, d := refusing(t, 100*fuel)
		for _, v := range plain() {
			if v == null() {
				continue
			}
			ask("SetPrototypeOf", ref(1), v).refused(t, h, d, typeError())
			for _, props := range append(plain(), ref(1), ref(3)) {
				ask("Create", v, props).refused(t, h, d, typeError())
			}
		}
	}
}

// What cannot be called, or constructed, is not; nor is a list asked then.
func TestNoFunction(t *testing.T) {
	for fuel := range 2 {
		h, d := refusing(t, 100*fuel)
		for _, f := range append(plain(), ref(1), ref(3)) {
			for _, other := range append(plain(), ref(1), ref(2), ref(3)) {
				ask("Apply", f, other, other).refused(t, h, d, typeError())
				ask("Construct", f, other, other).refused(t, h, d, typeError())
				ask("Construct", f, other, ref(2)).refused(t, h, d, typeError())
				ask("Construct", ref(2), other, f).refused(t, h, d, typeError())
			}
		}
		for _, list := range plain() {
			for _, this := range append(plain(), ref(1), ref(2)) {
				ask("Apply", ref(2), this, list).refused(t, h, d, typeError())
			}
			ask("Construct", ref(2), list, ref(2)).refused(t, h, d, typeError())
		}
	}
}
