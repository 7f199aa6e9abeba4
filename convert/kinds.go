package convert

import (
	"math"

	"cameo/api"
	"cameo/heap"
	"cameo/key"
	"cameo/number"
)

// What a value becomes that is no object any more: these enter nothing.

func numeral(v api.Value) (float64, error) {
	switch v.Kind {
	case api.KSym:
		return 0, typeError()
	case api.KNum:
		return v.Num, nil
	case api.KStr:
		return number.Parse(v.Str), nil
	case api.KBool:
		if v.Bool {
			return 1, nil
		}
		fallthrough
	case api.KNull:
		return 0, nil
	}
	return math.NaN(), nil
}

// text is the string that a value is as a key: symbols alone are keys that are no strings.
func text(v api.Value) (string, error) {
	if v.Kind == api.KSym {
		return "", typeError()
	}
	return name(v).Str, nil
}

// name is the key of a value. Its string is new memory.
func name(v api.Value) api.Key {
	k, _ := key.Of(v)
	return k
}

// whole is what a call of package number makes of a value's number.
func whole[T any](h *heap.Heap, v api.Value, of func(float64) T) (T, error) {
	x, err := Number(h, v)
	if err != nil {
		var none T
		return none, err
	}
	return of(x), nil
}

func typeOf(h *heap.Heap, v api.Value) string {
	switch v.Kind {
	case api.KBool:
		return "boolean"
	case api.KNum:
		return "number"
	case api.KStr:
		return "string"
	case api.KSym:
		return "symbol"
	case api.KRef:
		if h.Callable(v) {
			return "function"
		}
		fallthrough
	case api.KNull:
		return "object"
	}
	return "undefined"
}

func typeError() error { return &api.Thrown{Kind: api.XType} }

func rangeError() error { return &api.Thrown{Kind: api.XRange} }
