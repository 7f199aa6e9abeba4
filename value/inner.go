package value

import (
	"math"
	"strings"

	"cameo/api"
	"cameo/units"
)

// inner is a value that is known to be well formed: what it is tells the type behind it, one of these seven.
type inner interface {
	kind() int
}

type (
	undefined struct{}
	null      struct{}
	boolean   bool
	numeral   float64
	chars     string
	symbol    int
	object    int
)

func (undefined) kind() int { return api.KUndefined }
func (null) kind() int      { return api.KNull }
func (boolean) kind() int   { return api.KBool }
func (numeral) kind() int   { return api.KNum }
func (chars) kind() int     { return api.KStr }
func (symbol) kind() int    { return api.KSym }
func (object) kind() int    { return api.KRef }

// inside is a value as the package sees it; false, if it is not well formed.
func inside(v api.Value) (inner, bool) {
	if strays(v) {
		return nil, false
	}
	switch {
	case v.Kind == api.KUndefined:
		return undefined{}, true
	case v.Kind == api.KNull:
		return null{}, true
	case v.Kind == api.KBool:
		return boolean(v.Bool), true
	case v.Kind == api.KNum:
		return numeral(v.Num), true
	case v.Kind == api.KStr && fits(v.Str):
		return chars(v.Str), true
	case v.Kind == api.KSym && 1 <= v.Id && v.Id <= api.MaxSyms:
		return symbol(v.Id), true
	case v.Kind == api.KRef && 1 <= v.Id && v.Id <= api.MaxObjects:
		return object(v.Id), true
	}
	return nil, false
}

// strays tells whether a field has something that belongs to another kind. The number is asked by its bits, because -0 is something too.
func strays(v api.Value) bool {
	return v.Bool && v.Kind != api.KBool ||
		math.Float64bits(v.Num) != 0 && v.Kind != api.KNum ||
		v.Str != "" && v.Kind != api.KStr ||
		v.Id != 0 && v.Kind != api.KSym && v.Kind != api.KRef
}

// fits tells whether bytes can be a value's string.
func fits(s string) bool { return len(s) <= api.MaxStr && units.Valid(s) }

// outside is a value as it is handed out: its string is new memory.
func outside(x inner) api.Value {
	v := api.Value{Kind: x.kind()}
	switch y := x.(type) {
	case boolean:
		v.Bool = bool(y)
	case numeral:
		v.Num = float64(y)
	case chars:
		v.Str = strings.Clone(string(y))
	case symbol:
		v.Id = int(y)
	case object:
		v.Id = int(y)
	}
	return v
}

// checked is a value, if it is well formed, else no value.
func checked(v api.Value) api.Value {
	x, ok := inside(v)
	if !ok {
		return api.Value{}
	}
	return outside(x)
}

// is asserts that a value is of the type of a kind.
func is(x inner, kind int) bool {
	ok := false
	switch kind {
	case api.KUndefined:
		_, ok = x.(undefined)
	case api.KNull:
		_, ok = x.(null)
	case api.KBool:
		_, ok = x.(boolean)
	case api.KNum:
		_, ok = x.(numeral)
	case api.KStr:
		_, ok = x.(chars)
	case api.KSym:
		_, ok = x.(symbol)
	case api.KRef:
		_, ok = x.(object)
	}
	return ok
}
