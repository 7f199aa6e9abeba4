package strobj_test

// The chapter's examples.

import (
	"testing"

	"cameo/api"
)

func TestExample1(t *testing.T) {
	h := newHeap(t, 1, 100, 9)
	o := of(t, h, null(), "ab")
	listed(t, h, o, at(0), at(1), str("length"))
	tells(t, h, o, at(1), text("b"))
	defines(t, h, o, at(1), api.Desc{Value: text("b")}, true)
	defines(t, h, o, at(1), api.Desc{Value: text("c")}, false)
	defines(t, h, o, at(1), api.Desc{Enumerable: api.No}, false)
	defines(t, h, o, at(2), data(num(7), "c"), true)
	has(t, h, o, at(2), data(num(7), "c"))
	listed(t, h, o, at(0), at(1), at(2), str("length"))
	if ok, err := h.Delete(o, at(0)); ok || err != nil {
		t.Errorf("Delete: %v, %v", ok, err)
	}
	if ok, err := h.Set(o, at(0), text("x"), ref(o)); ok || err != nil {
		t.Errorf("Set: %v, %v", ok, err)
	}
	tells(t, h, o, at(0), text("a"))
}

func TestExample2(t *testing.T) {
	h := newHeap(t, 1, 100, 9)
	o := of(t, h, null(), "\xF0\x9F\x98\x80")
	tells(t, h, o, str("length"), num(2))
	tells(t, h, o, at(0), text("\xED\xA0\xBD"))
	tells(t, h, o, at(1), text("\xED\xB8\x80"))
	tells(t, h, o, at(2), undefined())
}

func TestExample3(t *testing.T) {
	h := newHeap(t, 1, 100, 9)
	o := of(t, h, null(), "ab")
	for _, k := range []string{"01", "-0", "2"} {
		has(t, h, o, str(k), api.Desc{})
		tells(t, h, o, str(k), undefined())
	}
}

func TestExample4(t *testing.T) {
	h := newHeap(t, 1, 100, 9)
	o := of(t, h, null(), "ab")
	if ok, err := h.PreventExtensions(o); !ok || err != nil {
		t.Errorf("PreventExtensions: %v, %v", ok, err)
	}
	defines(t, h, o, at(0), api.Desc{Value: text("a")}, true)
	defines(t, h, o, at(2), api.Desc{Value: text("a")}, false)
}
