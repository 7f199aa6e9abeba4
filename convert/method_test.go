package convert_test

// 12.2: the method that a value has under a key.

import (
	"testing"

	"cameo/api"
	"cameo/convert"
	"cameo/heap"
)

func methodIs(t *testing.T, h *heap.Heap, name string, cost int, want api.Value, wrong error, v api.Value, k api.Key) {
	t.Helper()
	was := h.Fuel()
	f, err := convert.Method(h, v, k)
	if f != want || !sameError(err, wrong) || was-h.Fuel() != cost {
		t.Errorf("12.2: %s: %v, %v, %d spent; want %v, %v, %d spent", name, f, err, was-h.Fuel(), want, wrong, cost)
	}
}

func TestMethodOfNoObject(t *testing.T) {
	h := newHeap(t, 0, 9, 1)
	for _, v := range plain() {
		for _, k := range []api.Key{toPrimitive, toString, str(""), str("length"), sym(1)} {
			methodIs(t, h, tell(v), 0, api.Value{}, typeError(), v, k)
		}
	}
}

func TestMethod(t *testing.T) {
	for _, k := range []api.Key{toPrimitive, toString, str(""), str("7"), sym(65536)} {
		h := newHeap(t, 20, 1000, 5)
		o := made(t, h, null())
		heir := made(t, h, ref(o))
		f := giving(t, h, null())
		both := func(name string, cost int, want api.Value, wrong error) {
			t.Helper()
			methodIs(t, h, name, cost, want, wrong, ref(o), k)
			methodIs(t, h, name+", of an heir", cost+1, want, wrong, ref(heir), k)
		}
		both("not there", 1, undefined(), nil)
		for _, v := range plain() {
			lay(t, h, o, k, open(v))
			if v == undefined() || v == null() {
				both(tell(v), 1, undefined(), nil)
			} else {
				both(tell(v), 1, api.Value{}, typeError())
			}
		}
		lay(t, h, o, k, open(ref(heir)))
		both("an object", 1, api.Value{}, typeError())
		lay(t, h, o, k, open(f))
		both("a function", 1, f, nil)
		lay(t, h, o, k, api.Desc{Get: giving(t, h, f)})
		both("got", 4, f, nil)
		lay(t, h, o, k, api.Desc{Get: giving(t, h, null())})
		both("null is got", 4, undefined(), nil)
		lay(t, h, o, k, api.Desc{Get: giving(t, h, ref(o))})
		both("an object is got", 4, api.Value{}, typeError())
		lay(t, h, o, k, api.Desc{Get: fn(t, h, api.Op{Code: api.OThis}, api.Op{Code: api.OThrow})})
		methodIs(t, h, "a throw", 4, api.Value{}, thrown(ref(o)), ref(o), k)
		methodIs(t, h, "a throw, of an heir", 5, api.Value{}, thrown(ref(heir)), ref(heir), k)
		lay(t, h, o, k, api.Desc{Get: undefined()})
		both("nothing gets it", 1, undefined(), nil)
	}
}

// What can be called, but is no function of layer 11, is a method, too; a function may be asked for one.
func TestMethodOfFunctions(t *testing.T) {
	h := newHeap(t, 5, 100, 5)
	var d diary
	f, g := ending(t, h, &d, "f", null(), nil), giving(t, h, null())
	lay(t, h, g.Id, toString, open(f))
	lay(t, h, f.Id, toString, open(f))
	methodIs(t, h, "a function's", 1, f, nil, g, toString)
	methodIs(t, h, "its own", 1, f, nil, f, toString)
	if len(d.lines) > 0 {
		t.Errorf("12.2: it was called: %v", d.lines)
	}
}

func TestMethodStops(t *testing.T) {
	h := newHeap(t, 5, 0, 1)
	o := made(t, h, null())
	heir := made(t, h, ref(o))
	lay(t, h, o, toString, api.Desc{Get: giving(t, h, null())})
	methodIs(t, h, "no fuel", 0, api.Value{}, api.ErrFuel, ref(o), valueOf)
	h.Refuel(9)
	methodIs(t, h, "as deep as may be", 1, undefined(), nil, ref(o), valueOf)
	methodIs(t, h, "a getter is too deep", 2, api.Value{}, api.ErrDepth, ref(o), toString)
	methodIs(t, h, "a prototype is too deep", 2, api.Value{}, api.ErrDepth, ref(heir), valueOf)
}
