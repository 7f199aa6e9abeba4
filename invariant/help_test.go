package invariant_test

// What the tests of this layer share: short names, everything as text, and moments at random.

import (
	"fmt"
	"math"
	"math/rand"
	"slices"
	"strings"

	"cameo/api"
)

func undefined() api.Value    { return api.Value{Kind: api.KUndefined} }
func null() api.Value         { return api.Value{Kind: api.KNull} }
func num(x float64) api.Value { return api.Value{Kind: api.KNum, Num: x} }
func text(s string) api.Value { return api.Value{Kind: api.KStr, Str: s} }
func ref(n int) api.Value     { return api.Value{Kind: api.KRef, Id: n} }
func str(s string) api.Key    { return api.Key{Str: s} }
func sym(n int) api.Key       { return api.Key{Sym: n} }

func minus0() float64   { return math.Copysign(0, -1) }
func nan() float64      { return math.NaN() }
func otherNaN() float64 { return math.Float64frombits(0xfff8000000000abc) }

// data and accessor are whole descriptors; flags are a string of those that are Yes: w, e, c.
func data(v api.Value, flags string) api.Desc {
	return api.Desc{Value: v, Writable: yes(flags, "w"), Enumerable: yes(flags, "e"), Configurable: yes(flags, "c")}
}

func accessor(get, set api.Value, flags string) api.Desc {
	return api.Desc{Get: get, Set: set, Enumerable: yes(flags, "e"), Configurable: yes(flags, "c")}
}

func yes(flags, c string) api.Tri {
	if strings.Contains(flags, c) {
		return api.Yes
	}
	return api.No
}

func prop(k string, d api.Desc) api.Prop { return api.Prop{Key: str(k), Desc: d} }

// opened and shut are shapes of ordinary objects, extensible and not.
func opened(props ...api.Prop) api.Shape {
	return api.Shape{Class: api.COrdinary, Proto: null(), Extensible: true, Props: props}
}

func shut(props ...api.Prop) api.Shape {
	s := opened(props...)
	s.Extensible = false
	return s
}

func moment(l ...api.Shape) []api.Shape { return l }

// copied is a moment that shares nothing with another one.
func copied(l []api.Shape) []api.Shape {
	out := slices.Clone(l)
	for i := range out {
		out[i].Props = slices.Clone(out[i].Props)
	}
	return out
}

// What things say, field by field: two are the same just if they say the same.

func sayValue(v api.Value) string {
	n := fmt.Sprintf("%x", math.Float64bits(v.Num))
	if v.Num != v.Num {
		n = "NaN"
	}
	return fmt.Sprintf("(%d %t %s %q %d)", v.Kind, v.Bool, n, v.Str, v.Id)
}

func sayDesc(d api.Desc) string {
	return fmt.Sprintf("{%s %s %s %d%d%d}", sayValue(d.Value), sayValue(d.Get), sayValue(d.Set), d.Writable, d.Enumerable, d.Configurable)
}

func sayProps(l []api.Prop) string {
	var b strings.Builder
	for _, p := range l {
		fmt.Fprintf(&b, "%q @%d: %s; ", p.Key.Str, p.Key.Sym, sayDesc(p.Desc))
	}
	return b.String()
}

func say(l []api.Shape) string {
	var b strings.Builder
	for i, s := range l {
		fmt.Fprintf(&b, "#%d %d %s %t %s\n", i+1, s.Class, sayValue(s.Proto), s.Extensible, sayProps(s.Props))
	}
	return b.String()
}

func sayDeltas(l []api.Delta) string {
	var b strings.Builder
	for _, d := range l {
		fmt.Fprintf(&b, "%d %d %d %t %s %q @%d %s\n", d.O, d.What, d.N, d.Yes, sayValue(d.V), d.Key.Str, d.Key.Sym, sayDesc(d.Desc))
	}
	return b.String()
}

// chance makes moments at random. What is wild need not be well formed, and its keys may stand twice.
type chance struct {
	*rand.Rand
	wild bool
}

func newChance(seed int64, wild bool) chance { return chance{rand.New(rand.NewSource(seed)), wild} }

func pick[T any](c chance, l ...T) T { return l[c.Intn(len(l))] }

func (c chance) value() api.Value {
	if c.wild && c.Intn(4) == 0 {
		return pick(c, api.Value{}, api.Value{Num: 1}, api.Value{Num: minus0()}, api.Value{Id: 1}, api.Value{Kind: 9}, api.Value{Kind: api.KNull, Bool: true}, api.Value{Kind: api.KRef, Str: "x"}, text("\xff"))
	}
	return pick(c, num(0), num(minus0()), num(1), num(nan()), num(otherNaN()), text("x"), text(""), undefined(), null(), ref(1), ref(2))
}

func (c chance) getter() api.Value {
	if c.wild && c.Intn(4) == 0 {
		return c.value()
	}
	return pick(c, undefined(), ref(1), ref(2))
}

func (c chance) tri() api.Tri {
	if c.wild && c.Intn(12) == 0 {
		return pick(c, api.Absent, api.Tri(3), api.Tri(-1))
	}
	return pick(c, api.No, api.No, api.Yes)
}

func (c chance) desc() api.Desc {
	d := api.Desc{Enumerable: c.tri(), Configurable: c.tri()}
	if c.Intn(3) == 0 {
		d.Get, d.Set = c.getter(), c.getter()
	} else {
		d.Value, d.Writable = c.value(), c.tri()
	}
	if c.wild && c.Intn(12) == 0 {
		d.Get = c.getter()
	}
	return d
}

func (c chance) key() api.Key {
	if c.wild && c.Intn(8) == 0 {
		return pick(c, api.Key{Str: "a", Sym: 1}, sym(-1), str("\xff"))
	}
	return pick(c, str("a"), str("b"), str("c"), str("1"), sym(1), str(""))
}

func (c chance) proto() api.Value { return pick(c, null(), null(), ref(1), c.value()) }

func (c chance) class() int { return pick(c, api.COrdinary, api.COrdinary, api.CFunction, api.CProxy) }

// with is properties with one more, of a key that is not there, unless it is wild.
func (c chance) with(l []api.Prop) []api.Prop {
	p := api.Prop{Key: c.key(), Desc: c.desc()}
	if !c.wild && where(l, p.Key) >= 0 {
		return l
	}
	return slices.Insert(slices.Clone(l), c.Intn(len(l)+1), p)
}

func (c chance) shape() api.Shape {
	s := api.Shape{Class: c.class(), Proto: c.proto(), Extensible: c.Intn(2) == 0}
	for range c.Intn(5) {
		s.Props = c.with(s.Props)
	}
	return s
}

func (c chance) moment() []api.Shape {
	var l []api.Shape
	for range c.Intn(4) {
		l = append(l, c.shape())
	}
	return l
}

// turned is a moment in which some few things are others.
func (c chance) turned(l []api.Shape) []api.Shape {
	l = copied(l)
	for range c.Intn(3) {
		switch n := c.Intn(16); {
		case n == 0 && len(l) > 0:
			l = l[:len(l)-1]
		case n == 1:
			l = append(l, c.shape())
		case len(l) > 0:
			c.turn(&l[c.Intn(len(l))])
		}
	}
	return l
}

func (c chance) turn(s *api.Shape) {
	at := c.Intn(len(s.Props) + 1)
	switch n := c.Intn(9); {
	case n == 0:
		s.Class = c.class()
	case n == 1:
		s.Proto = c.proto()
	case n == 2:
		s.Extensible = !s.Extensible
	case n == 3:
		s.Props = c.with(s.Props)
	case at == len(s.Props):
	case n == 4:
		s.Props = slices.Delete(s.Props, at, at+1)
	case n == 5:
		s.Props[0], s.Props[at] = s.Props[at], s.Props[0]
	case n == 6:
		s.Props[at].Desc = c.desc()
	default:
		c.bend(&s.Props[at].Desc)
	}
}

// bend makes one field of a descriptor another one.
func (c chance) bend(d *api.Desc) {
	isData := d.Writable != api.Absent
	switch n := c.Intn(4); {
	case n == 0:
		d.Enumerable = c.tri()
	case n == 1:
		d.Configurable = c.tri()
	case n == 2 && isData:
		d.Writable = c.tri()
	case isData:
		d.Value = c.value()
	case n == 2:
		d.Get = c.getter()
	default:
		d.Set = c.getter()
	}
}
