package convert_test

// What is handed out is new memory (R4): it shares none with what was handed in, or with what an object keeps.

import (
	"testing"
	"unsafe"

	"cameo/api"
	"cameo/convert"
)

func shares(a, b string) bool { return unsafe.StringData(a) == unsafe.StringData(b) }

func TestStringsAreNewMemory(t *testing.T) {
	h := newHeap(t, 2, 100, 1)
	s := string([]byte("some text"))
	made(t, h, null())
	lay(t, h, 1, toPrimitive, open(addNative(t, h, func(api.Value, []api.Value) (api.Value, error) { return text(s), nil })))
	for _, v := range []api.Value{text(s), ref(1)} {
		for _, hint := range hints() {
			if p, err := convert.Primitive(h, v, hint); p.Str != s || err != nil || shares(p.Str, s) {
				t.Errorf("Primitive: %v, %v", p, err)
			}
		}
		if p, err := convert.String(h, v); p != s || err != nil || shares(p, s) {
			t.Errorf("String: %v, %v", p, err)
		}
		if k, err := convert.Key(h, v); k.Str != s || err != nil || shares(k.Str, s) {
			t.Errorf("Key: %v, %v", k, err)
		}
		if p, err := convert.Add(h, v, text("")); p.Str != s || err != nil || shares(p.Str, s) {
			t.Errorf("Add: %v, %v", p, err)
		}
		if p, err := convert.Add(h, text(""), v); p.Str != s || err != nil || shares(p.Str, s) {
			t.Errorf("Add: %v, %v", p, err)
		}
	}
}

// What is thrown is new each time: who changes it changes nothing else.
func TestThrowsAreTheCallers(t *testing.T) {
	h := newHeap(t, 1, 100, 1)
	made(t, h, null())
	for range 2 {
		for _, x := range acts() {
			for _, v := range []api.Value{ref(1), symbol(1), num(-1)} {
				_, err := x.do(h, v, symbol(1))
				thrown, ok := err.(*api.Thrown)
				if !ok {
					continue
				}
				if *thrown != (api.Thrown{Kind: api.XType}) && *thrown != (api.Thrown{Kind: api.XRange}) {
					t.Errorf("%s: %v", x.name, *thrown)
				}
				*thrown = api.Thrown{Kind: 99, Value: text("junk")}
			}
		}
		h.Refuel(100)
	}
}

// What a method does with its arguments is no matter of the next call.
func TestArgumentsAreNew(t *testing.T) {
	h := newHeap(t, 2, 100, 1)
	made(t, h, null())
	lay(t, h, 1, toPrimitive, open(addNative(t, h, func(_ api.Value, args []api.Value) (api.Value, error) {
		v := args[0]
		args[0] = text("junk")
		return v, nil
	})))
	for range 2 {
		for hint, want := range []string{"default", "string", "number"} {
			if v, err := convert.Primitive(h, ref(1), hint); v != text(want) || err != nil {
				t.Errorf("Primitive: %v, %v", v, err)
			}
		}
	}
}

// Two heaps know nothing of each other.
func TestHeapsAreApart(t *testing.T) {
	a, b := newHeap(t, 2, 10, 1), newHeap(t, 2, 20, 1)
	made(t, a, null())
	made(t, b, null())
	lay(t, a, 1, valueOf, open(giving(t, a, num(5))))
	named(t, "Number").is(t, a, 5, num(5), nil, ref(1), null())
	named(t, "Number").is(t, b, 3, api.Value{}, typeError(), ref(1), null())
	if a.Fuel() != 5 || b.Fuel() != 17 {
		t.Errorf("%d, %d", a.Fuel(), b.Fuel())
	}
}
