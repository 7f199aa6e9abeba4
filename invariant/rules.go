package invariant

import (
	"slices"

	"cameo/api"
	"cameo/desc"
)

// course is an object at two moments.
type course struct {
	was, is api.Shape
	gone    bool // the later moment has no such object: what it is says nothing
}

// courseOf is the course of the object at a place of the earlier moment.
func courseOf(before, after []api.Shape, i int) course {
	if i >= len(after) {
		return course{was: before[i], gone: true}
	}
	return course{was: before[i], is: after[i]}
}

// rule is one thing that never comes about, and how one finds that it has.
type rule struct {
	number int
	broken func(c course) bool
}

// rules is all of them, in their order. Those behind the first one are asked only of objects that are there at both moments.
func rules() []rule {
	return []rule{
		{api.RLost, lost},
		{api.RClass, otherClass},
		{api.RExt, openAgain},
		{api.RProto, otherProto},
		{api.RKey, moreKeys},
		{api.RProp, otherProp},
	}
}

func lost(c course) bool { return c.gone }

func otherClass(c course) bool { return c.is.Class != c.was.Class }

func openAgain(c course) bool { return !c.was.Extensible && c.is.Extensible }

func otherProto(c course) bool { return !c.was.Extensible && !sameValue(c.was.Proto, c.is.Proto) }

// moreKeys tells whether an object that was not extensible has a key that it had not.
func moreKeys(c course) bool {
	if c.was.Extensible {
		return false
	}
	had := places(c.was.Props)
	return slices.ContainsFunc(c.is.Props, func(p api.Prop) bool {
		_, ok := had[p.Key]
		return !ok
	})
}

// otherProp tells whether a property that was not configurable is gone, or is not what it had to stay.
func otherProp(c course) bool {
	had, has := places(c.was.Props), places(c.is.Props)
	for i, p := range c.was.Props {
		if had[p.Key] != i || loose(p) {
			continue
		}
		at, ok := has[p.Key]
		if !ok || !keeps(p.Desc, c.is.Props[at].Desc) {
			return true
		}
	}
	return false
}

// keeps asks desc.Keeps; descriptors that it refuses keep nothing.
func keeps(was, is api.Desc) bool {
	ok, e := desc.Keeps(was, is)
	return ok && e == api.OK
}

// places is where each key stands first: that one is the shape's property.
func places(props []api.Prop) map[api.Key]int {
	m := make(map[api.Key]int, len(props))
	for i, p := range props {
		if _, ok := m[p.Key]; !ok {
			m[p.Key] = i
		}
	}
	return m
}

// loose tells whether a property is anything but not configurable.
func loose(p api.Prop) bool { return p.Desc.Configurable != api.No }

// changeable tells whether a property has neither getter nor setter, and is anything but read-only.
func changeable(p api.Prop) bool {
	d := p.Desc
	return d.Get.Kind == api.KNone && d.Set.Kind == api.KNone && d.Writable != api.No
}
