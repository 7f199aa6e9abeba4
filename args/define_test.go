package args_test

// 13.4: what DefineOwnProperty of a mapped arguments object says, and what it leaves, of every descriptor.

import (
	"testing"

	"cameo/api"
	"cameo/desc"
	"cameo/heap"
)

// descs is descriptors with every field there and absent: f is a function.
func descs(f api.Value) []api.Desc {
	tris := []api.Tri{api.Absent, api.No, api.Yes}
	var l []api.Desc
	for _, e := range tris {
		for _, c := range tris {
			for _, w := range tris {
				for _, v := range []api.Value{{}, num(1), num(7), undefined(), f} {
					l = append(l, api.Desc{Value: v, Writable: w, Enumerable: e, Configurable: c})
				}
			}
			for _, get := range []api.Value{{}, undefined(), f} {
				for _, set := range []api.Value{{}, undefined(), f} {
					if get != set || get.Kind != api.KNone {
						l = append(l, api.Desc{Get: get, Set: set, Enumerable: e, Configurable: c})
					}
				}
			}
		}
	}
	return l
}

// begun is how an object stands ahead of a definition: what its index 0 lies there as, whether it is tied still, what the parameter has.
type begun struct {
	lies  api.Desc
	tied  bool
	slot  api.Value
	alter func(t *testing.T, h *heap.Heap, o int)
}

// tiedStates is the flags that what is tied may have.
func tiedStates() []begun {
	var l []begun
	for _, flags := range []string{"wec", "we", "wc", "w"} {
		for _, v := range []api.Value{num(1), num(5), undefined()} {
			l = append(l, begun{data(v, flags), true, v, func(t *testing.T, h *heap.Heap, o int) {
				define(t, h, o, str("0"), data(num(2), flags))
				give(t, h, o, "a", v)
			}})
		}
	}
	return l
}

// loose is ways in which what lies there is tied no more, or not there.
func looseStates(f api.Value) []begun {
	var l []begun
	for _, flags := range []string{"wec", "we", "wc", "w", "ec", "e", "c", ""} {
		l = append(l, begun{data(num(1), flags), false, num(5), func(t *testing.T, h *heap.Heap, o int) {
			free(t, h, func() (bool, error) { return h.Delete(o, str("0")) })
			define(t, h, o, str("0"), data(num(1), flags))
			give(t, h, o, "a", num(5))
		}})
	}
	for _, flags := range []string{"ec", "e", "c", ""} {
		l = append(l, begun{accessor(f, undefined(), flags), false, num(1), func(t *testing.T, h *heap.Heap, o int) {
			define(t, h, o, str("0"), accessor(f, undefined(), flags))
		}})
	}
	return append(l, begun{api.Desc{}, false, num(1), func(t *testing.T, h *heap.Heap, o int) {
		free(t, h, func() (bool, error) { return h.Delete(o, str("0")) })
	}})
}

// behind is what 13.4 leaves: whether it is true, what lies there, whether it is tied, what the parameter has.
func (b begun) behind(extensible bool, d api.Desc) (bool, begun) {
	given := d
	if b.tied && desc.Data(d) && d.Value.Kind == api.KNone && d.Writable == api.No {
		given.Value = b.slot
	}
	next, ok, _ := desc.Apply(extensible, b.lies, given)
	if !ok {
		return false, b
	}
	after := begun{lies: next, tied: b.tied, slot: b.slot}
	switch {
	case !b.tied:
	case desc.Accessor(d):
		after.tied = false
	default:
		if d.Value.Kind != api.KNone {
			after.slot = d.Value
		}
		if d.Writable == api.No {
			after.tied = false
		}
	}
	return true, after
}

// is holds an object against how it must stand.
func (b begun) is(t *testing.T, h *heap.Heap, o int) {
	t.Helper()
	name := ""
	if b.tied {
		name = "a"
	}
	tells(t, h, o, str("0"), b.lies)
	has(t, h, o, "a", b.slot)
	tied(t, h, o, 0, name)
}

// 13.4
func TestDefine(t *testing.T) {
	f := ref(1)
	for _, b := range append(tiedStates(), looseStates(f)...) {
		for _, extensible := range []bool{true, false} {
			for _, d := range descs(f) {
				h := newHeap(t, 2, 100, 3)
				addNative(t, h, func(*heap.Heap, api.Value, []api.Value) (api.Value, error) { return num(1), nil })
				o := mapped(t, h, "ab", numbers(3)...)
				b.alter(t, h, o)
				if !extensible {
					shut(t, h, o)
				}
				b.is(t, h, o)
				want, after := b.behind(extensible, d)
				yields(t, h, "13.4", 1, want, func() (bool, error) { return h.DefineOwnProperty(o, str("0"), d) })
				after.is(t, h, o)
				tied(t, h, o, 1, "b")
				tells(t, h, o, str("1"), data(num(2), "wec"))
				if t.Failed() {
					t.Fatalf("13.4: %v, extensible %v, defined as %v", b, extensible, d)
				}
			}
		}
	}
}

// 13.4: one definition behind the other: what the first one leaves is where the second one begins.
func TestDefineTwice(t *testing.T) {
	f := ref(1)
	l := descs(f)
	for i, d := range l {
		for j := range 12 {
			h := newHeap(t, 2, 100, 3)
			addNative(t, h, func(*heap.Heap, api.Value, []api.Value) (api.Value, error) { return num(1), nil })
			o := mapped(t, h, "ab", numbers(3)...)
			b := begun{lies: data(num(1), "wec"), tied: true, slot: num(1)}
			for _, next := range []api.Desc{d, l[(i*7+j*31)%len(l)], l[(i*11+j*17+5)%len(l)]} {
				var want bool
				want, b = b.behind(true, next)
				yields(t, h, "13.4", 1, want, func() (bool, error) { return h.DefineOwnProperty(o, str("0"), next) })
				b.is(t, h, o)
			}
			if t.Failed() {
				t.Fatalf("13.4: %v", d)
			}
		}
	}
}

// 13.4: other keys than a tied index are defined as those of an ordinary object, whatever they look like.
func TestDefineOfOthers(t *testing.T) {
	keys := []api.Key{str("2"), str("3"), str("00"), str("01"), str("+0"), str("-0"), str("0.0"), str(" 0"), str("0 "), str("1e0"), str("4294967296"), str("4294967297"), str("a"), str("b"), str(""), str("length"), str("callee"), sym(1), sym(65536)}
	for _, k := range keys {
		h := newHeap(t, 1, 100, 3)
		o := mapped(t, h, "ab", numbers(3)...)
		for _, d := range []api.Desc{data(num(7), "wec"), {Value: num(8), Writable: api.No}, {Writable: api.Yes}, {Get: undefined()}, data(num(9), "wec")} {
			yields(t, h, "13.4", 1, true, func() (bool, error) { return h.DefineOwnProperty(o, k, d) })
		}
		tells(t, h, o, k, data(num(9), "wec"))
		yields(t, h, "Delete", 1, true, func() (bool, error) { return h.Delete(o, k) })
		for i, s := range []string{"a", "b"} {
			tied(t, h, o, i, s)
			has(t, h, o, s, num(float64(i+1)))
		}
	}
}

// 13.4: values of every kind go to the parameter, and to what lies there, as they are.
func TestDefineValues(t *testing.T) {
	for _, writable := range []api.Tri{api.Absent, api.Yes, api.No} {
		for _, v := range append(plain(), ref(1)) {
			h := newHeap(t, 1, 100, 3)
			o := mapped(t, h, "a", num(3))
			yields(t, h, "13.4", 1, true, func() (bool, error) {
				return h.DefineOwnProperty(o, str("0"), api.Desc{Value: v, Writable: writable})
			})
			has(t, h, o, "a", v)
			if writable != api.No {
				tells(t, h, o, str("0"), data(v, "wec"))
				tied(t, h, o, 0, "a")
				continue
			}
			tells(t, h, o, str("0"), data(v, "ec"))
			tied(t, h, o, 0, "")
		}
	}
}
