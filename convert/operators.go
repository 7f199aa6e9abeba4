package convert

import (
	"cameo/api"
	"cameo/heap"
	"cameo/number"
	"cameo/units"
	"cameo/value"
)

// loose tells whether two values are loosely equal. The one of the lesser kind is put first: at most one of them is an object that is asked, so that nothing hangs on which one it is.
func loose(h *heap.Heap, a, b api.Value) (bool, error) {
	if a.Kind == b.Kind {
		equal, _ := value.Strict(a, b)
		return equal, nil
	}
	if a.Kind > b.Kind {
		a, b = b, a
	}
	switch a.Kind {
	case api.KUndefined, api.KNull:
		return b.Kind == api.KNull, nil
	case api.KBool:
		x, _ := numeral(a)
		return loose(h, value.Num(x), b)
	case api.KNum:
		if b.Kind == api.KStr {
			return number.Equal(a.Num, number.Parse(b.Str)), nil
		}
		fallthrough
	case api.KStr, api.KSym:
		if b.Kind == api.KRef {
			return looseToObject(h, a, b)
		}
	}
	return false, nil
}

func looseToObject(h *heap.Heap, a, o api.Value) (bool, error) {
	p, err := primitive(h, o, api.HintDefault)
	if err != nil {
		return false, err
	}
	return loose(h, a, p)
}

// less tells whether a value is less than another one, and whether they have an order.
func less(h *heap.Heap, a, b api.Value, left bool) (bool, bool, error) {
	a, b, err := primitives(h, a, b, api.HintNumber, left)
	if err != nil {
		return false, false, err
	}
	if a.Kind == api.KStr && b.Kind == api.KStr {
		n, _ := units.Compare(a.Str, b.Str)
		return n < 0, true, nil
	}
	x, y, err := numerals(a, b)
	if err != nil {
		return false, false, err
	}
	is, ordered := number.Less(x, y)
	return is, ordered, nil
}

func add(h *heap.Heap, a, b api.Value) (api.Value, error) {
	a, b, err := primitives(h, a, b, api.HintDefault, true)
	if err != nil {
		return api.Value{}, err
	}
	if a.Kind == api.KStr || b.Kind == api.KStr {
		return join(a, b)
	}
	x, y, err := numerals(a, b)
	if err != nil {
		return api.Value{}, err
	}
	return value.Num(x + y), nil
}

// join is two values that are no objects as one string.
func join(a, b api.Value) (api.Value, error) {
	head, err := text(a)
	if err != nil {
		return api.Value{}, err
	}
	tail, err := text(b)
	if err != nil {
		return api.Value{}, err
	}
	s, e := units.Concat(head, tail)
	if e != api.OK {
		return api.Value{}, rangeError()
	}
	return value.Str(s), nil
}

// primitives is two values as ones that are no objects; which of them is asked first can be seen by what they do.
func primitives(h *heap.Heap, a, b api.Value, hint int, left bool) (api.Value, api.Value, error) {
	if !left {
		q, p, err := primitives(h, b, a, hint, true)
		return p, q, err
	}
	p, err := primitive(h, a, hint)
	if err != nil {
		return api.Value{}, api.Value{}, err
	}
	q, err := primitive(h, b, hint)
	if err != nil {
		return api.Value{}, api.Value{}, err
	}
	return p, q, nil
}

func numerals(a, b api.Value) (float64, float64, error) {
	x, err := numeral(a)
	if err != nil {
		return 0, 0, err
	}
	y, err := numeral(b)
	if err != nil {
		return 0, 0, err
	}
	return x, y, nil
}
