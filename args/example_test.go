package args_test

// The chapter's examples, and the one of the whole.

import (
	"testing"

	"cameo/api"
)

func TestExample1(t *testing.T) {
	h := newHeap(t, 1, 100, 9)
	o := mapped(t, h, "ab", numbers(3)...)
	get := func() (api.Value, error) { return h.Get(o, str("1"), ref(o)) }
	yields(t, h, "Get", 1, num(2), get)
	give(t, h, o, "b", num(9))
	yields(t, h, "Get", 1, num(9), get)
	yields(t, h, "Set", 3, true, func() (bool, error) { return h.Set(o, str("1"), num(8), ref(o)) })
	has(t, h, o, "b", num(8))
	tied(t, h, o, 0, "a")
	tied(t, h, o, 1, "b")
	tied(t, h, o, 2, "")
}

func TestExample2(t *testing.T) {
	h := newHeap(t, 1, 100, 9)
	o := mapped(t, h, "aa", numbers(2)...)
	if l := slots(h, o); len(l) != 1 || l[0] != (slot{"a", num(2), 1}) {
		t.Errorf("%v", l)
	}
	tied(t, h, o, 0, "")
	tied(t, h, o, 1, "a")
}

func TestExample3(t *testing.T) {
	h := newHeap(t, 1, 100, 9)
	o := mapped(t, h, "ab", numbers(3)...)
	yields(t, h, "Define", 1, true, func() (bool, error) { return h.DefineOwnProperty(o, str("0"), api.Desc{Writable: api.No}) })
	tells(t, h, o, str("0"), data(num(1), "ec"))
	give(t, h, o, "a", num(7))
	tells(t, h, o, str("0"), data(num(1), "ec"))
	yields(t, h, "Delete", 1, true, func() (bool, error) { return h.Delete(o, str("1")) })
	yields(t, h, "Define", 1, true, func() (bool, error) { return h.DefineOwnProperty(o, str("1"), data(num(5), "wec")) })
	tied(t, h, o, 1, "")
	has(t, h, o, "b", num(2))
	tells(t, h, o, str("1"), data(num(5), "wec"))
}

func TestExample4(t *testing.T) {
	h := newHeap(t, 1, 100, 9)
	o := mapped(t, h, "ab", numbers(3)...)
	yields(t, h, "Define", 1, true, func() (bool, error) {
		return h.DefineOwnProperty(o, str("0"), api.Desc{Value: num(4), Writable: api.No})
	})
	has(t, h, o, "a", num(4))
	tied(t, h, o, 0, "")
	tells(t, h, o, str("0"), data(num(4), "ec"))
	tied(t, h, o, 1, "b")
}

// The third example of the whole.
func TestExampleOfTheWhole(t *testing.T) {
	h := newHeap(t, 1, 100, 9)
	o := mapped(t, h, "ab", numbers(2)...)
	yields(t, h, "Set", 3, true, func() (bool, error) { return h.Set(o, str("1"), num(8), ref(o)) })
	has(t, h, o, "b", num(8))
	yields(t, h, "Define", 1, true, func() (bool, error) {
		return h.DefineOwnProperty(o, str("0"), api.Desc{Value: num(4), Writable: api.No})
	})
	has(t, h, o, "a", num(4))
	tied(t, h, o, 0, "")
}
