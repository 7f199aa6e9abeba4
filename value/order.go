package value

import (
	"cmp"
	"math"

	"cameo/api"
	"cameo/number"
	"cameo/units"
)

// hold holds two values against each other; the ways to do so differ in what they say of numbers alone.
func hold(a, b api.Value, numbers func(x, y float64) bool) (bool, api.Errno) {
	x, okX := inside(a)
	y, okY := inside(b)
	if !okX || !okY {
		return false, api.ErrValue
	}
	return alike(x, y, numbers), api.OK
}

func alike(a, b inner, numbers func(x, y float64) bool) bool {
	switch x := a.(type) {
	case numeral:
		y, ok := b.(numeral)
		return ok && numbers(float64(x), float64(y))
	}
	return a == b
}

func same(a, b inner) bool { return alike(a, b, number.Same) }

func truthy(x inner) bool {
	switch y := x.(type) {
	case undefined, null:
		return false
	case boolean:
		return bool(y)
	case numeral:
		return y != 0 && !math.IsNaN(float64(y))
	case chars:
		return y != ""
	}
	return true
}

// compare is the order of two values: -1, 0 or 1; 0 just if they are the same.
func compare(a, b inner) int {
	if a.kind() != b.kind() {
		return cmp.Compare(a.kind(), b.kind())
	}
	// Kinds that are the same have the same type behind them: no assertion below fails.
	switch x := a.(type) {
	case boolean:
		return compareBools(bool(x), bool(b.(boolean)))
	case numeral:
		return compareNumbers(float64(x), float64(b.(numeral)))
	case chars:
		n, _ := units.Compare(string(x), string(b.(chars)))
		return n
	case symbol:
		return cmp.Compare(x, b.(symbol))
	case object:
		return cmp.Compare(x, b.(object))
	}
	return 0
}

func compareBools(x, y bool) int {
	switch {
	case x == y:
		return 0
	case y:
		return -1
	}
	return 1
}

func compareNumbers(x, y float64) int {
	switch {
	case math.IsNaN(x) || math.IsNaN(y):
		// The library has them ahead of all others, the document behind: so the other way round.
		return cmp.Compare(y, x)
	case x == y:
		return compareBools(!math.Signbit(x), !math.Signbit(y))
	}
	return cmp.Compare(x, y)
}
