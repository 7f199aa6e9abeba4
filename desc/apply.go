package desc

import (
	"cameo/api"
	"cameo/value"
)

// filled is a descriptor that is well formed with no field absent that it must have.
func filled(d api.Desc) api.Desc {
	if shape(d) == accessor {
		d.Get = valueOr(d.Get, value.Undefined())
		d.Set = valueOr(d.Set, value.Undefined())
	} else {
		d.Value = valueOr(d.Value, value.Undefined())
		d.Writable = triOr(d.Writable, api.No)
	}
	d.Enumerable = triOr(d.Enumerable, api.No)
	d.Configurable = triOr(d.Configurable, api.No)
	return d
}

// valueOr is a field, or what stands for it where it is absent.
func valueOr(v, absent api.Value) api.Value {
	if there(v) {
		return v
	}
	return absent
}

func triOr(t, absent api.Tri) api.Tri {
	if said(t) {
		return t
	}
	return absent
}

// forbidden tells whether a property that is not configurable may not be defined so.
func forbidden(now, d api.Desc) bool {
	if d.Configurable == api.Yes || said(d.Enumerable) && d.Enumerable != now.Enumerable || turns(now, d) {
		return true
	}
	if shape(now) == accessor {
		return differs(now.Get, d.Get) || differs(now.Set, d.Set)
	}
	return now.Writable == api.No && (d.Writable == api.Yes || differs(now.Value, d.Value))
}

// turns tells whether a descriptor would make data an accessor, or an accessor data; a generic one never does.
func turns(now, d api.Desc) bool { return shape(d) != generic && shape(d) != shape(now) }

// differs tells whether a field is there, and is not what it was.
func differs(now, field api.Value) bool { return there(field) && !same(now, field) }

// become is what a property becomes by what may be.
func become(now, d api.Desc) api.Desc {
	if turns(now, d) {
		// Of what it was only these two are left, and they come ahead of what fills a descriptor.
		d.Enumerable = triOr(d.Enumerable, now.Enumerable)
		d.Configurable = triOr(d.Configurable, now.Configurable)
		return filled(d)
	}
	return api.Desc{
		Value:        valueOr(d.Value, now.Value),
		Get:          valueOr(d.Get, now.Get),
		Set:          valueOr(d.Set, now.Set),
		Writable:     triOr(d.Writable, now.Writable),
		Enumerable:   triOr(d.Enumerable, now.Enumerable),
		Configurable: triOr(d.Configurable, now.Configurable),
	}
}

// kept tells whether what a property that is not configurable has become is what it was, as far as it is fixed.
func kept(before, after api.Desc) bool {
	// What is not there any more is not No either.
	if after.Configurable != api.No || after.Enumerable != before.Enumerable || shape(after) != shape(before) {
		return false
	}
	if shape(before) == accessor {
		return same(before.Get, after.Get) && same(before.Set, after.Set)
	}
	return before.Writable == api.Yes || after.Writable == api.No && same(before.Value, after.Value)
}
