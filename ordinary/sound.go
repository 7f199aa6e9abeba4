package ordinary

import (
	"cameo/api"
	"cameo/desc"
	"cameo/key"
	"cameo/value"
)

// moment is shapes as the objects 1 to their number, whatever they say, and how far they were walked.
type moment struct {
	shapes []api.Shape
	met    []int // of each shape the number of the walk that came to it first, 0, if none did
}

func newMoment(l []api.Shape) moment { return moment{shapes: l, met: make([]int, len(l))} }

// object tells whether a value is one of the shapes.
func (m moment) object(v api.Value) bool {
	return v.Kind == api.KRef && v.Id <= len(m.shapes) && value.Check(v) == api.OK
}

// prototype tells whether a value can be a prototype there.
func (m moment) prototype(v api.Value) bool {
	return m.object(v) || v.Kind == api.KNull && value.Check(v) == api.OK
}

// round tells whether one comes to a shape twice, beginning with the one at i. Those ahead of it are known to come to none twice, so that a walk may end where one of theirs has been: all of them together are no longer than the list.
func (m moment) round(i int) bool {
	at, on := i, true
	for on && m.met[at] == 0 {
		m.met[at] = i + 1
		at, on = m.next(at)
	}
	return on && m.met[at] == i+1
}

// next is the place of a shape's prototype; false, if nothing more is looked at there.
func (m moment) next(at int) (int, bool) {
	s := m.shapes[at]
	if s.Class == api.CProxy || !m.object(s.Proto) {
		return 0, false
	}
	return s.Proto.Id - 1, true
}

// distinct tells whether all keys are keys, each there once.
func distinct(props []api.Prop) bool {
	there := make(map[api.Key]struct{}, len(props))
	for _, p := range props {
		if key.Check(p.Key) != api.OK {
			return false
		}
		there[p.Key] = struct{}{}
	}
	return len(there) == len(props)
}

// whole tells whether all descriptors are those of properties that are there, with objects that are there.
func (m moment) whole(props []api.Prop) bool {
	for _, p := range props {
		if !desc.Whole(p.Desc) || !m.known(p.Desc.Value, p.Desc.Get, p.Desc.Set) {
			return false
		}
	}
	return true
}

func (m moment) known(l ...api.Value) bool {
	for _, v := range l {
		if v.Kind == api.KRef && !m.object(v) {
			return false
		}
	}
	return true
}
