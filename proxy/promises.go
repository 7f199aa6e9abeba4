package proxy

import (
	"slices"

	"cameo/api"
	"cameo/desc"
	"cameo/records"
)

// What a target has promised for ever no trap may go against: these ask the target, step by step, and throw where what the trap has answered does not fit.

// descends throws, unless the target may have the prototype v: one that is not extensible keeps the one that it has.
func (x trap) descends(v api.Value) error {
	free, err := x.h.IsExtensible(x.target)
	if free || err != nil {
		return err
	}
	proto, err := x.h.GetPrototypeOf(x.target)
	return throwIf(!same(proto, v), err)
}

// lacks throws, unless the target's property k may be told as none.
func (x trap) lacks(k api.Key) error {
	now, there, err := x.h.GetOwnProperty(x.target, k)
	if err != nil {
		return err
	}
	return x.hides(now, there)
}

// hides throws, unless the target's property, if there is one, may be told as none.
func (x trap) hides(now api.Desc, there bool) error {
	switch {
	case !there:
		return nil
	case now.Configurable == api.No:
		return typeError()
	}
	free, err := x.h.IsExtensible(x.target)
	return throwIf(!free, err)
}

// described is the descriptor that an object tells, where the target's property, the zero descriptor if there is none, may be told so.
func (x trap) described(now api.Desc, r api.Value) (api.Desc, bool, error) {
	free, err := x.h.IsExtensible(x.target)
	if err != nil {
		return api.Desc{}, false, err
	}
	d, err := records.To(x.h, r)
	if err != nil {
		return api.Desc{}, false, err
	}
	d, _ = desc.Complete(d)
	if !fits(free, now, d) {
		return api.Desc{}, false, typeError()
	}
	return d, true, nil
}

// defined throws, unless the target's property k may have been defined by d.
func (x trap) defined(k api.Key, d api.Desc) error {
	now, _, err := x.h.GetOwnProperty(x.target, k)
	if err != nil {
		return err
	}
	free, err := x.h.IsExtensible(x.target)
	return throwIf(!fits(free, now, d), err)
}

// fits tells whether a target's property, the zero descriptor if there is none, may be told by d, or have been defined by it: it could become so, and is no less fixed than d says.
func fits(free bool, now, d api.Desc) bool {
	_, ok, _ := desc.Apply(free, now, d)
	looser := d.Configurable == api.No && now.Configurable != api.No
	writable := now.Configurable == api.No && now.Writable == api.Yes && d.Writable == api.No
	return ok && !looser && !writable
}

// misread tells whether a property, the zero descriptor if there is none, can never have told v.
func misread(d api.Desc, v api.Value) bool {
	if d.Configurable != api.No {
		return false
	}
	return d.Writable == api.No && !same(d.Value, v) || d.Get.Kind == api.KUndefined && v.Kind != api.KUndefined
}

// unwritten tells whether a property, the zero descriptor if there is none, can never have been set to v.
func unwritten(d api.Desc, v api.Value) bool {
	if d.Configurable != api.No {
		return false
	}
	return d.Writable == api.No && !same(d.Value, v) || d.Set.Kind == api.KUndefined
}

// listed throws, unless the target's keys may be told as l: none of them twice, none missing that is fixed, and just these, if the target is not extensible.
func (x trap) listed(l []api.Key) error {
	told := setOf(l)
	if len(told) < len(l) {
		return typeError()
	}
	free, err := x.h.IsExtensible(x.target)
	if err != nil {
		return err
	}
	keys, err := x.h.OwnPropertyKeys(x.target)
	if err != nil {
		return err
	}
	fixed, err := x.fixed(keys)
	switch {
	case err != nil:
		return err
	case !told.hasAll(fixed):
		return typeError()
	case free:
		return nil
	}
	return throwIf(!told.hasAll(keys) || !setOf(keys).hasAll(l), nil)
}

// fixed is those of the target's keys whose properties are not configurable.
func (x trap) fixed(keys []api.Key) ([]api.Key, error) {
	var l []api.Key
	for _, k := range keys {
		d, _, err := x.h.GetOwnProperty(x.target, k)
		if err != nil {
			return nil, err
		}
		if d.Configurable == api.No {
			l = append(l, k)
		}
	}
	return l, nil
}

// keySet is keys, of which one asks whether it has them.
type keySet map[api.Key]struct{}

func setOf(l []api.Key) keySet {
	s := make(keySet, len(l))
	for _, k := range l {
		s[k] = struct{}{}
	}
	return s
}

func (s keySet) hasAll(l []api.Key) bool {
	missing := func(k api.Key) bool {
		_, ok := s[k]
		return !ok
	}
	return !slices.ContainsFunc(l, missing)
}
