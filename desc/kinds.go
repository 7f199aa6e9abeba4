package desc

import (
	"math"
	"strings"

	"cameo/api"
	"cameo/value"
)

// Which a descriptor is. What is not well formed is none of the three.
const (
	none = iota
	generic
	data
	accessor
)

// kindOf is which of the three a descriptor is; none, if it is not well formed.
func kindOf(d api.Desc) int {
	if !sound(d) {
		return none
	}
	return shape(d)
}

// shape is which of the three a descriptor is by the fields that are there, of which it asks no more: of a descriptor that is known to be well formed that is enough, and a long string is not gone through again.
func shape(d api.Desc) int {
	ofData := there(d.Value) || said(d.Writable)
	ofAccessor := there(d.Get) || there(d.Set)
	switch {
	case ofData && ofAccessor:
		return none
	case ofData:
		return data
	case ofAccessor:
		return accessor
	}
	return generic
}

// sound tells whether each field by itself is well formed.
func sound(d api.Desc) bool {
	return (!there(d.Value) || value.Check(d.Value) == api.OK) &&
		callable(d.Get) && callable(d.Set) &&
		oneOfThree(d.Writable) && oneOfThree(d.Enumerable) && oneOfThree(d.Configurable)
}

// there tells whether a field has a value, or anything that makes it none. -0 is asked for by its sign, because it is equal to the 0 of no value.
func there(v api.Value) bool { return v != api.Value{} || math.Signbit(v.Num) }

func said(t api.Tri) bool { return t != api.Absent }

// callable tells whether a field can be a getter or a setter, or the lack of one.
func callable(v api.Value) bool {
	switch v.Kind {
	case api.KUndefined, api.KRef:
		return value.Check(v) == api.OK
	}
	return !there(v)
}

func oneOfThree(t api.Tri) bool { return t == api.Absent || t == api.No || t == api.Yes }

// nothing tells whether a descriptor is the zero one.
func nothing(d api.Desc) bool {
	return shape(d) == generic && !said(d.Enumerable) && !said(d.Configurable)
}

// stands tells whether a descriptor stands for a property, or for one that is not there.
func stands(d api.Desc) bool { return nothing(d) || Whole(d) }

// same tells whether two fields are both absent, or both there with the same value.
func same(a, b api.Value) bool {
	if !there(a) || !there(b) {
		return there(a) == there(b)
	}
	ok, _ := value.Same(a, b)
	return ok
}

// anew is a descriptor as it is handed out: its string is new memory.
func anew(d api.Desc) api.Desc {
	d.Value.Str = strings.Clone(d.Value.Str)
	return d
}
