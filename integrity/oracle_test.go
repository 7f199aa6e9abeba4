package integrity_test

// The layer read a second time, by other means, as ECMA-262 has it: SetIntegrityLevel and TestIntegrityLevel (7.3.15, 7.3.16) over the methods alone, Object.freeze and its like on top of them, and a list that is searched from its front; none of the package's functions is used, nor those of desc.

import (
	"cameo/api"
	"cameo/heap"
)

// setIntegrity is SetIntegrityLevel.
func setIntegrity(h *heap.Heap, o int, frozen bool) (bool, error) {
	status, err := h.PreventExtensions(o)
	if err != nil {
		return false, err
	}
	if !status {
		return false, nil
	}
	keys, err := h.OwnPropertyKeys(o)
	if err != nil {
		return false, err
	}
	for i := 0; i < len(keys); i++ {
		var next api.Desc
		if frozen {
			current, found, err := h.GetOwnProperty(o, keys[i])
			if err != nil {
				return false, err
			}
			if !found {
				continue
			}
			if current.Value.Kind != api.KNone || current.Writable != api.Absent {
				next.Writable = api.No
			}
		}
		next.Configurable = api.No
		ok, err := h.DefineOwnProperty(o, keys[i], next)
		if err != nil {
			return false, err
		}
		if !ok {
			return false, typeError()
		}
	}
	return true, nil
}

// testIntegrity is TestIntegrityLevel.
func testIntegrity(h *heap.Heap, o int, frozen bool) (bool, error) {
	extensible, err := h.IsExtensible(o)
	if err != nil {
		return false, err
	}
	if extensible {
		return false, nil
	}
	keys, err := h.OwnPropertyKeys(o)
	if err != nil {
		return false, err
	}
	for i := 0; i < len(keys); i++ {
		current, found, err := h.GetOwnProperty(o, keys[i])
		if err != nil {
			return false, err
		}
		if found && current.Configurable == api.Yes {
			return false, nil
		}
		isData := found && current.Get.Kind == api.KNone && current.Set.Kind == api.KNone
		if frozen && isData && current.Writable == api.Yes {
			return false, nil
		}
	}
	return true, nil
}

// twinLevel is Object.preventExtensions, Object.seal and Object.freeze.
func twinLevel(h *heap.Heap, v api.Value, level int) (api.Value, error) {
	if e := h.Check(v); e != api.OK {
		return api.Value{}, e
	}
	if level < 1 || level > 3 {
		return api.Value{}, api.ErrRange
	}
	if v.Kind != api.KRef {
		return v, nil
	}
	var status bool
	var err error
	if level == 1 {
		status, err = h.PreventExtensions(v.Id)
	} else {
		status, err = setIntegrity(h, v.Id, level == 3)
	}
	if err != nil {
		return api.Value{}, err
	}
	if !status {
		return api.Value{}, typeError()
	}
	return v, nil
}

// twinLevelOf is Object.isExtensible, the other way round, Object.isSealed and Object.isFrozen.
func twinLevelOf(h *heap.Heap, v api.Value, level int) (bool, error) {
	if e := h.Check(v); e != api.OK {
		return false, e
	}
	if level < 1 || level > 3 {
		return false, api.ErrRange
	}
	if v.Kind != api.KRef {
		return true, nil
	}
	if level > 1 {
		return testIntegrity(h, v.Id, level == 3)
	}
	extensible, err := h.IsExtensible(v.Id)
	if err != nil {
		return false, err
	}
	return !extensible, nil
}

// twinHarden keeps what is done and what is still to do apart.
func twinHarden(h *heap.Heap, v api.Value) ([]int, error) {
	if e := h.Check(v); e != api.OK {
		return nil, e
	}
	var done, queue []int
	meet := func(v api.Value) {
		for _, l := range [][]int{done, queue} {
			for _, o := range l {
				if o == v.Id {
					return
				}
			}
		}
		if v.Kind == api.KRef {
			queue = append(queue, v.Id)
		}
	}
	meet(v)
	for len(queue) > 0 {
		o := queue[0]
		queue, done = queue[1:], append(done, o)
		if status, err := setIntegrity(h, o, true); err != nil {
			return nil, err
		} else if !status {
			return nil, typeError()
		}
		proto, err := h.GetPrototypeOf(o)
		if err != nil {
			return nil, err
		}
		meet(proto)
		keys, err := h.OwnPropertyKeys(o)
		if err != nil {
			return nil, err
		}
		for _, k := range keys {
			d, found, err := h.GetOwnProperty(o, k)
			if err != nil {
				return nil, err
			}
			if found {
				meet(d.Value)
				meet(d.Get)
				meet(d.Set)
			}
		}
	}
	return done, nil
}

func byTwins() reading {
	there := func(do func(h *heap.Heap, o int, frozen bool) (bool, error), frozen bool) func(h *heap.Heap, o int) (bool, error) {
		return func(h *heap.Heap, o int) (bool, error) {
			if o < 1 || o > h.Len() {
				return false, api.ErrRef
			}
			return do(h, o, frozen)
		}
	}
	return reading{there(setIntegrity, false), there(setIntegrity, true), there(testIntegrity, false), there(testIntegrity, true), twinLevel, twinLevelOf, twinHarden}
}
