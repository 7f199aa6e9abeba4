package integrity_test

// 21.1 to 21.5 of objects that write down what is entered: each step, what it changes, and what the act comes to, worked out from how the objects lie there alone.

import (
	"slices"
	"strconv"
	"testing"

	"cameo/api"
)

// ordered is the keys of a shape, indices first, then strings, then symbols.
func ordered(s api.Shape) []api.Key {
	var numbers []int
	var words, symbols []api.Key
	for _, p := range s.Props {
		n, err := strconv.Atoi(p.Key.Str)
		switch {
		case p.Key.Sym != 0:
			symbols = append(symbols, p.Key)
		case err == nil && n >= 0 && n < 1<<32-1 && strconv.Itoa(n) == p.Key.Str:
			numbers = append(numbers, n)
		default:
			words = append(words, p.Key)
		}
	}
	slices.Sort(numbers)
	var l []api.Key
	for _, n := range numbers {
		l = append(l, str(strconv.Itoa(n)))
	}
	return append(append(l, words...), symbols...)
}

func place(s api.Shape, k api.Key) int {
	return slices.IndexFunc(s.Props, func(p api.Prop) bool { return p.Key == k })
}

// fixes is the steps of Seal, or of Freeze.
func (p *plot) fixes(o int, frozen bool) {
	p.step(o, "prevent", func(s *api.Shape) { s.Extensible = false })
	p.step(o, "keys", nil)
	for _, k := range ordered(p.now()[o-1]) {
		at := place(p.now()[o-1], k)
		d, what := p.now()[o-1].Props[at].Desc, "c-"
		d.Configurable = api.No
		if frozen {
			p.step(o, "own "+nameOf(k), nil)
		}
		if frozen && !isAccessor(d) {
			d.Writable, what = api.No, "w-c-"
		}
		p.step(o, "define "+nameOf(k)+" "+what, func(s *api.Shape) { s.Props[at].Desc = d })
	}
}

// asks is the steps of IsSealed, or of IsFrozen, and its answer.
func (p *plot) asks(o int, frozen bool) bool {
	s := p.now()[o-1]
	p.step(o, "ext", nil)
	if s.Extensible {
		return false
	}
	p.step(o, "keys", nil)
	for _, k := range ordered(s) {
		p.step(o, "own "+nameOf(k), nil)
		d := s.Props[place(s, k)].Desc
		if d.Configurable == api.Yes || frozen && d.Writable == api.Yes {
			return false
		}
	}
	return true
}

// hardens is the steps of Harden, and its answer.
func (p *plot) hardens(o int) []int {
	l := []int{o}
	add := func(v api.Value) {
		if v.Kind == api.KRef && !slices.Contains(l, v.Id) {
			l = append(l, v.Id)
		}
	}
	for i := 0; i < len(l); i++ {
		o := l[i]
		p.fixes(o, true)
		p.step(o, "proto", nil)
		s := p.now()[o-1]
		add(s.Proto)
		p.step(o, "keys", nil)
		for _, k := range ordered(s) {
			p.step(o, "own "+nameOf(k), nil)
			d := s.Props[place(s, k)].Desc
			add(d.Value)
			add(d.Get)
			add(d.Set)
		}
	}
	return l
}

// plotted is what an act must do.
func plotted(c cast, x act) *plot {
	p := newPlot(c)
	switch o := max(x.o, x.v.Id); {
	case x.name == "Seal" || x.name == "Fix" && x.level == api.LSealed:
		p.fixes(o, false)
		p.want = true
	case x.name == "Freeze" || x.name == "Fix" && x.level == api.LFrozen:
		p.fixes(o, true)
		p.want = true
	case x.name == "IsSealed" || x.name == "Fixed" && x.level == api.LSealed:
		p.want = p.asks(o, false)
	case x.name == "IsFrozen" || x.name == "Fixed" && x.level == api.LFrozen:
		p.want = p.asks(o, true)
	case x.name == "Fix":
		p.step(o, "prevent", func(s *api.Shape) { s.Extensible = false })
	case x.name == "Fixed":
		p.step(o, "ext", nil)
		p.want = !c[o-1].Extensible
	case x.name == "Harden":
		p.want = p.hardens(o)
	}
	if x.name == "Fix" {
		p.want = x.v
	}
	return p
}

// all is each of the calls, of an object.
func all(o int) []act {
	l := []act{seal(o), freeze(o), isSealed(o), isFrozen(o), harden(ref(o))}
	for _, n := range levels() {
		l = append(l, fixing(ref(o), n), fixedness(ref(o), n))
	}
	return l
}

// descs is properties of every sort; two objects may be in them, and stand for functions: nobody calls them.
func descs() []api.Desc {
	var l []api.Desc
	for _, flags := range []string{"", "e", "c", "ec"} {
		for _, v := range []api.Value{undefined(), num(below0), text("x"), ref(1), ref(2)} {
			l = append(l, data(v, flags), data(v, flags+"w"))
		}
		for _, g := range []api.Value{undefined(), ref(1), ref(2)} {
			l = append(l, accessor(g, undefined(), flags), accessor(undefined(), g, flags), accessor(ref(2), g, flags))
		}
	}
	return l
}

// keys is keys of every sort.
func keys() []api.Key {
	return []api.Key{str("a"), str(""), str("0"), str("4294967294"), str("4294967295"), str("-0"), str("01"), str("1.5"), str("length"), str("__proto__"), str("constructor"), str("get"), str(high), str("\U0001f600"), sym(1), sym(api.SymToStringTag), sym(14), sym(65536)}
}

// bare is an ordinary object with some properties.
func bare(extensible bool, props ...api.Prop) api.Shape {
	return api.Shape{Class: api.COrdinary, Proto: null(), Extensible: extensible, Props: props}
}

// No properties, and one, of every sort, under every sort of key.
func TestOneProperty(t *testing.T) {
	t.Parallel()
	for _, extensible := range []bool{true, false} {
		c := cast{bare(extensible), bare(true)}
		for _, x := range all(1) {
			plotted(c, x).holds(t, x, ends())
		}
		for _, d := range descs() {
			for i, k := range keys() {
				c[0].Props = []api.Prop{{Key: k, Desc: d}}
				for _, x := range all(1) {
					plotted(c, x).holds(t, x, ends()[i%len(ends()):][:1])
				}
			}
		}
	}
}

// Two properties: each sort beside each other one.
func TestTwoProperties(t *testing.T) {
	t.Parallel()
	for i, d := range descs() {
		for j, e := range descs() {
			if i%5 != j%5 && i != j+1 { // one in five of them, and neighbours
				continue
			}
			for _, extensible := range []bool{true, false} {
				c := cast{bare(extensible, api.Prop{Key: sym(3), Desc: d}, api.Prop{Key: str("a"), Desc: e}), bare(true)}
				for _, x := range all(1) {
					plotted(c, x).holds(t, x, nil)
				}
			}
		}
	}
}

// Many properties, in an order of their own: the keys are gone through as OwnPropertyKeys tells them.
func TestManyProperties(t *testing.T) {
	t.Parallel()
	var l []api.Prop
	for i, k := range []string{"b", "2", "", "10", "a", "01", "1", "4294967294", "4294967295", "-0"} {
		l = append(l, api.Prop{Key: str(k), Desc: data(num(float64(i)), "wec")}, marked(20-i, accessor(undefined(), undefined(), "ec")))
	}
	for n := range len(l) + 1 {
		for _, open := range []int{-1, 0, n / 2, n - 1} { // one may be changeable where no other is
			props := slices.Clone(l[:n])
			for i := range props {
				if i != open {
					props[i].Desc.Configurable = api.No
				}
			}
			for _, extensible := range []bool{true, false} {
				c := cast{bare(extensible, props...)}
				for _, x := range all(1) {
					plotted(c, x).holds(t, x, ends()[:1])
				}
			}
		}
	}
}

// Behind Seal, IsSealed looks at all, and IsFrozen as far as the first one that is writable; behind Freeze both look at all; twice is as once.
func TestBehindEachOther(t *testing.T) {
	t.Parallel()
	for _, flags := range []string{"", "w", "e", "c", "we", "wc", "ec", "wec"} {
		c := cast{bare(true, has("z", num(1)), is("a", data(num(1), flags)), is("b", accessor(undefined(), undefined(), flags)))}
		for _, first := range all(1) {
			behind := plotted(c, first)
			for _, second := range all(1) {
				plotted(behind.now(), second).holds(t, second, nil)
			}
		}
	}
}
