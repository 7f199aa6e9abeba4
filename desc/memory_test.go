package desc_test

// What is handed out is new memory (R4).

import (
	"testing"
	"unsafe"

	"cameo/api"
	"cameo/desc"
)

func shares(a, b api.Desc) bool {
	return unsafe.StringData(a.Value.Str) == unsafe.StringData(b.Value.Str)
}

func TestStringsAreNewMemory(t *testing.T) {
	text := func(s string) api.Value { return str(string([]byte(s))) }
	d, whole := api.Desc{Value: text("some text")}, data(text("some text"), api.No, api.Yes, api.Yes)
	fixed := data(text("some text"), api.No, api.No, api.No)
	if got, _ := desc.Complete(d); got.Value.Str != "some text" || shares(got, d) {
		t.Error("Complete")
	}
	for i, c := range []struct{ now, d api.Desc }{
		{zero, d}, {whole, d}, {whole, api.Desc{Enumerable: api.No}}, {whole, zero}, {accessor(ref(1), ref(1), api.Yes, api.Yes), d},
		{fixed, d}, {fixed, api.Desc{Value: num(1)}}, {fixed, api.Desc{Get: ref(1)}},
	} {
		got, _, _ := desc.Apply(true, c.now, c.d)
		again, _, _ := desc.Apply(true, c.now, c.d)
		if got.Value.Str != "some text" || shares(got, c.now) || shares(got, c.d) || shares(got, again) {
			t.Errorf("Apply, row %d", i)
		}
	}
}
