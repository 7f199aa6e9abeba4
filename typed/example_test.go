package typed_test

// The chapter's examples, and the one of the whole.

import (
	"testing"

	"cameo/api"
	"cameo/heap"
	"cameo/typed"
)

func TestExample1(t *testing.T) {
	h := newHeap(t, 3, 100, 9)
	b := filled(t, h, make([]byte, 8)...)
	o := over(t, h, b, api.TInt8, 0, 8)
	sets(t, h, o, at(0), num(200))
	tells(t, h, o, at(0), num(-56))
	holds(t, h, b, 0xC8, 0, 0, 0, 0, 0, 0, 0)
	c := over(t, h, b, api.TUint8C, 0, 8)
	for x, want := range map[float64]float64{2.5: 2, 300: 255, nan: 0} {
		sets(t, h, c, at(1), num(x))
		tells(t, h, c, at(1), num(want))
	}
}

func TestExample2(t *testing.T) {
	h := newHeap(t, 2, 100, 9)
	o := over(t, h, filled(t, h, make([]byte, 8)...), api.TFloat32, 0, 2)
	for x, want := range map[float64]float64{0.1: 0.10000000149011612, 1e39: endless, -1e39: -endless} {
		sets(t, h, o, at(1), num(x))
		tells(t, h, o, at(1), num(want))
	}
	sets(t, h, o, at(1), num(below0))
	tells(t, h, o, at(1), num(below0))
}

func TestExample3(t *testing.T) {
	h := newHeap(t, 4, 100, 9)
	o := over(t, h, filled(t, h, 1, 2, 3, 4, 5, 6, 7, 8), api.TInt8, 0, 8)
	for _, k := range []string{"-0", "1.5", "Infinity", "NaN", "8"} {
		tells(t, h, o, str(k), undefined())
	}
	for i, k := range []string{"08", "1.0"} {
		defines(t, h, o, str(k), data(num(float64(i)), "wec"), true)
		tells(t, h, o, str(k), num(float64(i)))
	}
	mine := &api.Thrown{Kind: api.XValue, Value: text("mine")}
	f := addNative(t, h, func(*heap.Heap, api.Value, []api.Value) (api.Value, error) { return api.Value{}, mine })
	v := made(t, h, null())
	define(t, h, v, str("valueOf"), data(f, "wec"))
	if ok, err := h.Set(o, at(9), ref(v), ref(o)); ok || !sameError(err, mine) {
		t.Errorf("%v, %v", ok, err)
	}
}

func TestExample4(t *testing.T) {
	h := newHeap(t, 2, 100, 9)
	b := filled(t, h, 1, 2, 3, 4, 5, 6, 7, 8)
	o := over(t, h, b, api.TInt8, 0, 8)
	defines(t, h, o, at(0), api.Desc{Configurable: api.No}, false)
	defines(t, h, o, at(0), api.Desc{Value: num(5)}, true)
	holds(t, h, b, 5, 2, 3, 4, 5, 6, 7, 8)
	for i, want := range map[int]bool{0: false, 9: true} {
		if ok, err := h.Delete(o, at(i)); ok != want || err != nil {
			t.Errorf("Delete(%d): %v, %v", i, ok, err)
		}
	}
	detach(t, h, b)
	tells(t, h, o, at(0), undefined())
	if keys, err := h.OwnPropertyKeys(o); len(keys) != 0 || err != nil {
		t.Errorf("%v, %v", keys, err)
	}
}

// The seventh example of the whole.
func TestExampleOfTheWhole(t *testing.T) {
	h := newHeap(t, 2, 100, 9)
	o := over(t, h, filled(t, h, make([]byte, 8)...), api.TInt8, 0, 8)
	sets(t, h, o, at(0), num(200))
	tells(t, h, o, at(0), num(-56))
	defines(t, h, o, str("-0"), data(num(1), "wec"), false)
	sets(t, h, o, str("-0"), num(1))
	tells(t, h, o, str("-0"), undefined())
	sets(t, h, o, str("08"), num(1))
	tells(t, h, o, str("08"), num(1))
	if s, _ := h.Shape(o); len(s.Props) != 1 || s.Props[0].Key != str("08") {
		t.Errorf("%v", s)
	}
	if p, e := typed.Parts(h, o); p != [4]int{1, api.TInt8, 0, 8} || e != api.OK {
		t.Errorf("%v, %v", p, e)
	}
}
