package invariant

import (
	"slices"

	"cameo/api"
	"cameo/value"
)

// Sameness of what may be anything: value.Same and desc.Same would refuse what is not well formed.

func sameShape(a, b api.Shape) bool {
	return a.Class == b.Class && sameValue(a.Proto, b.Proto) && a.Extensible == b.Extensible &&
		slices.EqualFunc(a.Props, b.Props, sameProp)
}

func sameProp(a, b api.Prop) bool { return a.Key == b.Key && sameDesc(a.Desc, b.Desc) }

func sameDesc(a, b api.Desc) bool {
	return a.Writable == b.Writable && a.Enumerable == b.Enumerable && a.Configurable == b.Configurable &&
		sameValue(a.Value, b.Value) && sameValue(a.Get, b.Get) && sameValue(a.Set, b.Set)
}

// sameValue goes field by field, whatever the kind says about them.
func sameValue(a, b api.Value) bool {
	return a.Kind == b.Kind && a.Bool == b.Bool && a.Id == b.Id && a.Str == b.Str && sameNumber(a.Num, b.Num)
}

// sameNumber asks by values that are well formed, of any two floats.
func sameNumber(x, y float64) bool {
	same, _ := value.Same(value.Num(x), value.Num(y))
	return same
}
