package array_test

// The chapter's examples, and the one of the whole.

import (
	"testing"

	"cameo/api"
	"cameo/array"
)

func TestExample1(t *testing.T) {
	h := newHeap(t, 1, 100, 9)
	o := sized(t, h, 3)
	long(t, h, o, 3)
	holds(t, h, o, api.Value{}, api.Value{}, api.Value{})
	defines(t, h, o, at(5), data(num(1), "wec"), true)
	long(t, h, o, 6)
	defines(t, h, o, str("length"), api.Desc{Value: num(2)}, true)
	long(t, h, o, 2)
	holds(t, h, o, api.Value{}, api.Value{})
	defines(t, h, o, at(4), data(num(4), "we"), true)
	defines(t, h, o, at(5), data(num(5), "wec"), true)
	long(t, h, o, 6)
	defines(t, h, o, str("length"), api.Desc{Value: num(0)}, false)
	long(t, h, o, 5)
	lies(t, h, o, at(4), data(num(4), "we"))
	lies(t, h, o, at(5), api.Desc{})
}

func TestExample2(t *testing.T) {
	h := newHeap(t, 1, 100, 9)
	o := sized(t, h, 3)
	throws(t, h, o, str("length"), api.Desc{Value: num(1.5)}, rangeError())
	defines(t, h, o, str("length"), api.Desc{Value: text("2")}, true)
	long(t, h, o, 2)
	throws(t, h, o, str("length"), api.Desc{Value: num(-1)}, rangeError())
	throws(t, h, o, str("length"), api.Desc{Value: num(4294967296)}, rangeError())
	defines(t, h, o, str("length"), api.Desc{Value: yes()}, true)
	long(t, h, o, 1)
}

func TestExample3(t *testing.T) {
	h := newHeap(t, 1, 100, 9)
	o := sized(t, h, 3)
	defines(t, h, o, str("length"), api.Desc{Writable: api.No}, true)
	defines(t, h, o, at(3), data(num(1), "wec"), false)
	defines(t, h, o, at(2), data(num(1), "wec"), true)
	holds(t, h, o, api.Value{}, api.Value{}, num(1))
}

func TestExample4(t *testing.T) {
	h := newHeap(t, 1, 100, 9)
	if o, err := array.New(h, null(), 4294967296); o != 0 || !sameError(err, rangeError()) || h.Len() != 0 {
		t.Errorf("%d, %v", o, err)
	}
	o := sized(t, h, 0)
	defines(t, h, o, str("4294967294"), data(num(1), "wec"), true)
	long(t, h, o, 4294967295)
	defines(t, h, o, str("4294967295"), data(num(2), "wec"), true)
	long(t, h, o, 4294967295)
	lies(t, h, o, str("4294967295"), data(num(2), "wec"))
}

// The fourth example of the whole.
func TestExampleOfTheWhole(t *testing.T) {
	h := newHeap(t, 1, 100, 9)
	o := listed(t, h, numbers(6)...)
	define(t, h, o, at(4), api.Desc{Configurable: api.No})
	defines(t, h, o, str("length"), api.Desc{Value: num(0)}, false)
	long(t, h, o, 5)
	holds(t, h, o, numbers(5)...)
}
