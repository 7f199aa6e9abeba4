package records_test

// 17.6: the constructor that an object's constructor names.

import (
	"testing"

	"cameo/api"
)

// bySpecies is a scene of an object 1 whose constructor 2 has such a property, if it is one; 3 is a constructor, 4 is a function that is none, 5 an object that is neither.
func bySpecies(want any, wrong error, lines []string, def api.Value, props ...api.Prop) scene {
	return scene{"17.6", func(s stage) act {
		o := s.seer(null(), has("constructor", ref(2)))
		s.seer(null(), props...)
		class(s.t, s.h)
		s.ending("f", num(1), nil)
		made(s.t, s.h, null())
		return species(o, def)
	}, lines, want, wrong}
}

func named(v api.Value) api.Prop {
	return api.Prop{Key: sym(api.SymSpecies), Desc: open(v)}
}

// defs is what may stand in, which is any value.
func defs() []api.Value { return append(plain(), ref(1), ref(3), ref(5)) }

var both = []string{"get #1 constructor #1", "get #2 @9 #2"}

func TestSpecies(t *testing.T) {
	for _, def := range defs() {
		bySpecies(def, nil, both, def).holds(t)
		bySpecies(def, nil, both, def, named(undefined())).holds(t)
		bySpecies(def, nil, both, def, named(null())).holds(t)
		bySpecies(def, nil, both, def, api.Prop{Key: sym(api.SymSpecies), Desc: api.Desc{Get: undefined()}}).holds(t)
		bySpecies(ref(3), nil, both, def, named(ref(3))).holds(t)
		// Other symbols, and strings that look like it, are not asked for.
		bySpecies(def, nil, both, def, api.Prop{Key: sym(api.SymSpecies + 1), Desc: open(ref(3))}, has("@9", ref(3)), has("species", ref(3))).holds(t)
		for _, v := range append(plain(), ref(1), ref(4), ref(5)) {
			if v.Kind > api.KNull {
				bySpecies(nil, typeError(), both, def, named(v)).holds(t)
			}
		}
	}
}

// 17.6: a constructor that is missing, or no object: the symbol is not asked for.
func TestSpeciesWithoutConstructor(t *testing.T) {
	without := func(want any, wrong error, def api.Value, props ...api.Prop) {
		t.Helper()
		scene{"17.6: constructor", func(s stage) act {
			o := s.seer(null(), props...)
			for range 4 {
				made(s.t, s.h, null())
			}
			return species(o, def)
		}, both[:1], want, wrong}.holds(t)
	}
	for _, def := range defs() {
		without(def, nil, def)
		without(def, nil, def, has("constructor", undefined()))
		without(def, nil, def, got("constructor", undefined()))
		for _, v := range plain() {
			if v.Kind != api.KUndefined {
				without(nil, typeError(), def, has("constructor", v))
			}
		}
	}
}

// 17.6: the constructor needn't be one itself, nor be callable; it may be the object.
func TestSpeciesOfItself(t *testing.T) {
	scene{"17.6: itself", func(s stage) act {
		o := s.seer(null(), has("constructor", ref(1)))
		lay(s.t, s.h, o, sym(api.SymSpecies), open(class(s.t, s.h)))
		return species(o, null())
	}, []string{"get #1 constructor #1", "get #1 @9 #1"}, ref(2), nil}.holds(t)
	h := newHeap(t, 2, 10, 1)
	c := class(t, h)
	lay(t, h, c.Id, str("constructor"), open(c))
	species(c.Id, num(7)).is(t, h, 2, num(7), nil)
	lay(t, h, c.Id, sym(api.SymSpecies), open(c))
	species(c.Id, num(7)).is(t, h, 2, c, nil)
}

// 17.6: both may be inherited, and told by getters, each with its own object as the receiver.
func TestSpeciesAsked(t *testing.T) {
	lines := []string{"get #2 constructor #2", "get #1 constructor #2", "call constructor #2", "get #4 @9 #4", "get #3 @9 #4", "call species #4"}
	scene{"17.6: asked", func(s stage) act {
		base := s.seer(null())
		o := s.seer(ref(base))
		above := s.seer(null())
		c := s.seer(ref(above))
		lay(s.t, s.h, base, str("constructor"), got("constructor", s.ending("constructor", ref(c), nil)).Desc)
		lay(s.t, s.h, above, sym(api.SymSpecies), got("", s.ending("species", class(s.t, s.h), nil)).Desc)
		return species(o, null())
	}, lines, ref(6), nil}.holds(t)
}

// 17.6: programs change it in the midst.
func TestSpeciesChangedInTheMidst(t *testing.T) {
	h := newHeap(t, 9, 100, 9)
	o, c := made(t, h, null()), made(t, h, null())
	k := class(t, h)
	body := fn(t, h, api.Op{Code: api.OConst, Val: ref(c)}, api.Op{Code: api.OConst, To: 1, Val: k}, api.Op{Code: api.ODefine, To: 2, A: 0, B: 1, Key: sym(api.SymSpecies), Flag: true}, api.Op{Code: api.OReturn})
	lay(t, h, o, str("constructor"), api.Desc{Get: body})
	species(o, num(1)).is(t, h, 1+1+4+1+1, k, nil)
}
