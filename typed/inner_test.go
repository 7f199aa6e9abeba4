package typed

// What no call of this layer makes yet, and its words speak of: a typed array that is longer than its buffer.

import (
	"testing"

	"cameo/api"
	"cameo/heap"
	"cameo/key"
	"cameo/value"
)

func TestLongerThanItsBuffer(t *testing.T) {
	h, _ := heap.New(2, 100, 5)
	b, err := Buffer(h, value.Null(), 5)
	if err != nil {
		t.Fatal(err)
	}
	o, err := h.Add(api.CTyped, value.Null(), methods{}, view{b, api.TUint16, 0, 4})
	if err != nil {
		t.Fatal(err)
	}
	for i := range 4 {
		there := i < 2 // of the third one only half lies there
		k := key.FromIndex(uint32(i))
		if ok, err := h.HasProperty(o, k); ok != there || err != nil {
			t.Errorf("15.5: HasProperty(%d): %v, %v", i, ok, err)
		}
		if ok, err := h.Set(o, k, value.Num(-1), value.Ref(o)); !ok || err != nil {
			t.Errorf("15.6: Set(%d): %v, %v", i, ok, err)
		}
		if ok, err := h.DefineOwnProperty(o, k, api.Desc{Value: value.Num(-1)}); ok != there || err != nil {
			t.Errorf("15.6: DefineOwnProperty(%d): %v, %v", i, ok, err)
		}
		if v, err := h.Get(o, k, value.Null()); (v == value.Num(65535)) != there || (v == value.Undefined()) == there || err != nil {
			t.Errorf("15.5: Get(%d): %v, %v", i, v, err)
		}
		if ok, err := h.Delete(o, k); ok == there || err != nil {
			t.Errorf("15.5: Delete(%d): %v, %v", i, ok, err)
		}
	}
	if keys, err := h.OwnPropertyKeys(o); len(keys) != 4 || err != nil {
		t.Errorf("15.7: %v, %v", keys, err)
	}
	if l, _ := Bytes(h, b); string(l) != "\xFF\xFF\xFF\xFF\x00" {
		t.Errorf("15.6: % x", l)
	}
}
