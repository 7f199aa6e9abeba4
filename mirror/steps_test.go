package mirror_test

// 22.2 to 22.8 of objects that write down what is entered: properties, keys, attributes and lists of every sort.

import (
	"slices"
	"strconv"
	"testing"

	"cameo/api"
)

// The objects that most casts have: the one that is asked, and those that stand beside it.
const (
	asked   = 1
	answers = 2 // a function that answers a number
	leads   = 3 // one that answers the object 5
	speaks  = 4 // one that answers the key a
	other   = 5
	named   = 6 // an object that is the key a
	fields  = 7 // the attributes of a property
	props   = 8 // properties to be defined
	empty   = 9
)

// shape is an object of a cast.
func shape(proto api.Value, props ...api.Prop) api.Shape {
	return api.Shape{Class: api.COrdinary, Proto: proto, Extensible: true, Props: props}
}

func shut(s api.Shape) api.Shape {
	s.Extensible = false
	return s
}

func function() api.Shape {
	return api.Shape{Class: api.CNative, Proto: null(), Extensible: true}
}

// around is a cast of one object, and of those that stand beside it.
func around(s api.Shape, more ...api.Shape) cast {
	l := []api.Shape{
		s, function(), function(), function(),
		shape(null(), has("b", num(1)), has("a", num(2)), is("7", accessor(ref(answers), ref(answers), "ec"))),
		shape(null(), has("toString", ref(speaks))),
		shape(null(), has("value", num(4)), has("enumerable", yes()), has("configurable", num(1))),
		shape(null(), has("a", ref(fields)), is("hidden", data(num(1), "wc")), marked(3, data(ref(fields), "e"))),
		shape(null()),
	}
	return cast{append(l, more...), map[int]api.Value{answers: num(5), leads: ref(other), speaks: text("a")}}
}

// all is each of the calls, with the object 1 in each of its places, and a key.
func all(k api.Value) []act {
	o, a, e := ref(asked), ref(other), ref(empty)
	return []act{
		ask("Object", o), ask("IsArray", o), ask("Tag", o),
		ask("Apply", o, a, e), ask("Apply", ref(answers), o, e), ask("Apply", ref(leads), null(), o),
		ask("Construct", ref(leads), e, ref(answers)), ask("Construct", ref(leads), o, ref(leads)), ask("Construct", o, e, ref(leads)), ask("Construct", ref(leads), e, o),
		ask("DefineProperty", o, k, ref(fields)), ask("DefineProperty", o, k, e), ask("DefineProperty", a, k, o), ask("DefineProperty", o, k, k),
		ask("DeleteProperty", o, k), ask("Has", o, k), ask("Descriptor", o, k), ask("HasOwn", o, k),
		ask("Get", o, k, o), ask("Get", o, k, a), ask("Get", o, k, num(5)), ask("Get", a, k, o),
		ask("Set", o, k, num(9), o), ask("Set", o, k, a, a), ask("Set", o, k, num(9), undefined()), ask("Set", a, k, num(9), o), ask("Set", o, k, o, e),
		ask("GetPrototypeOf", o), ask("SetPrototypeOf", o, null()), ask("SetPrototypeOf", o, a), ask("SetPrototypeOf", o, o), ask("SetPrototypeOf", a, o),
		ask("IsExtensible", o), ask("PreventExtensions", o), ask("OwnKeys", o),
		ask("Create", o, undefined()), ask("Create", null(), o), ask("Create", o, ref(props)), ask("Create", o, null()),
		ask("DefineProperties", o, ref(props)), ask("DefineProperties", a, o), ask("DefineProperties", o, o),
		ask("Descriptors", o), ask("Assign", o), ask("Assign", o, a), ask("Assign", a, o), ask("Assign", o, o), ask("Assign", num(1), o, null(), a, undefined(), num(1), text("")),
		ask("Keys", o), ask("Values", o), ask("Entries", o), ask("Names", o), ask("Symbols", o),
	}
}

// few is one in so many of all the calls, other ones at each turn.
func few(turn, n int, k api.Value) []act {
	var l []act
	for i, x := range all(k) {
		if (i+turn)%n == 0 {
			l = append(l, x)
		}
	}
	return l
}

// descs is properties of every sort.
func descs() []api.Desc {
	var l []api.Desc
	u, f := undefined(), ref(answers)
	for _, flags := range []string{"", "e", "c", "ec"} {
		for _, v := range []api.Value{u, num(below0), text("x"), ref(asked), ref(fields)} {
			l = append(l, data(v, flags), data(v, flags+"w"))
		}
		l = append(l, accessor(u, u, flags), accessor(f, u, flags), accessor(u, f, flags), accessor(ref(leads), f, flags))
	}
	return l
}

// keys is keys of every sort.
func keys() []api.Key {
	return []api.Key{str("a"), str(""), str("0"), str("4294967294"), str("4294967295"), str("-0"), str("01"), str("1.5"), str("length"), str("__proto__"), str("value"), str("get"), str("toString"), str(high), str("\U0001f600"), sym(1), sym(api.SymToStringTag), sym(api.SymToPrimitive), sym(14), sym(65536)}
}

// No properties, and one, of every sort, under every sort of key.
func TestOneProperty(t *testing.T) {
	t.Parallel()
	for i, proto := range []api.Value{null(), ref(other), ref(empty)} {
		for j, k := range keys() {
			for n, x := range few(i+j, 2, word(k)) {
				plotted(around(shape(proto)), x).holds(t, x, ends()[(i+j+n)%len(ends()):][:1])
				plotted(around(shut(shape(proto))), x).holds(t, x, nil)
			}
			for n, d := range descs() {
				if (n+j)%6 != i {
					continue
				}
				c := around(shape(proto, api.Prop{Key: k, Desc: d}))
				for _, x := range few(n, 5, word(k)) {
					plotted(c, x).holds(t, x, ends()[(i+j)%len(ends()):][:1])
				}
				c.shapes[0].Extensible = false
				for _, x := range few(n+1, 5, word(k)) {
					plotted(c, x).holds(t, x, nil)
				}
			}
		}
	}
}

// Many properties, in an order of their own: the keys are gone through as OwnPropertyKeys tells them.
func TestManyProperties(t *testing.T) {
	t.Parallel()
	var l []api.Prop
	for i, k := range []string{"b", "2", "", "10", "a", "01", "1", "4294967294", "4294967295", "-0"} {
		flags := []string{"wec", "e", "wc", "ec", "wec"}[i%5]
		l = append(l, is(k, data(num(float64(i)), flags)), marked(20-i, data(ref(fields), flags)), is("g"+k, accessor(ref(leads), undefined(), flags)))
	}
	for _, n := range []int{0, 1, 2, 5, 9, 14, len(l)} {
		for _, c := range []cast{around(shape(null(), l[:n]...)), around(shape(ref(other), l[:n]...)), around(shut(shape(null(), l[len(l)-n:]...)))} {
			for i, x := range all(text("a")) {
				plotted(c, x).holds(t, x, ends()[i%len(ends()):][:n%2])
			}
		}
	}
}

// Values of every kind as keys, and objects that are asked what key they are, in every way in which they may answer.
func TestKeys(t *testing.T) {
	t.Parallel()
	o := shape(ref(other), has("a", num(1)), is("0", accessor(ref(answers), undefined(), "e")), has("null", num(2)), marked(14, data(num(3), "wec")))
	for _, k := range plain() {
		for _, x := range all(k) {
			plotted(around(o), x).holds(t, x, ends()[:1])
		}
	}
	way := func(k int) api.Key { return []api.Key{sym(api.SymToPrimitive), str("toString"), str("valueOf")}[k] }
	const last = 10 // the object that is the key
	for i := range 5 * 5 * 5 {
		var l []api.Prop
		for k, n := range []int{i / 25, i / 5 % 5, i % 5} {
			d := []api.Desc{{}, data(null(), ""), data(ref(speaks), ""), accessor(ref(leads), undefined(), "c"), data(ref(leads), "we")}[n]
			if n > 0 {
				l = append(l, api.Prop{Key: way(k), Desc: d})
			}
		}
		c := around(o, shape(ref(named), l...))
		for _, x := range few(i, 4, ref(last)) {
			plotted(c, x).holds(t, x, ends()[i%len(ends()):][:1])
		}
	}
}

// What a function answers as a key: of every kind.
func TestKeysOfEveryKind(t *testing.T) {
	t.Parallel()
	for i, v := range append(plain(), ref(other)) {
		c := around(shape(null(), has("a", num(1)), has("0", num(2)), marked(14, data(num(3), "wec"))))
		c.answers[speaks] = v
		for _, x := range all(ref(named)) {
			plotted(c, x).holds(t, x, ends()[i%2*len(ends()):]) // with all of them, and with none
		}
	}
}

// Attributes with any of the six fields, own ones and those of a prototype, data and accessors.
func TestAttributes(t *testing.T) {
	t.Parallel()
	names := []string{"enumerable", "configurable", "value", "writable", "get", "set"}
	values := [][]api.Value{{yes(), num(nan), text("")}, {no(), text("no"), ref(other)}, {num(1), ref(empty), undefined()}, {yes(), null(), num(below0)}, {ref(answers), undefined(), num(1)}, {undefined(), ref(leads), null()}}
	for i := range 1 << 6 {
		for j := range 3 {
			if i%2 == j%2 && j > 0 {
				continue
			}
			var own, above []api.Prop
			for n, name := range names {
				v := values[n][(i+j)%3]
				switch {
				case i>>n&1 == 0:
				case (n+j)%3 == 0:
					above = append(above, has(name, v))
				case (n+j)%3 == 1:
					own = append(own, is(name, data(v, "")))
				case n < 2: // any answer is a flag
					own = append(own, got(name, answers))
				default:
					own = append(own, is(name, accessor(undefined(), undefined(), "")))
				}
			}
			const attributes, all = 11, 12
			c := around(shape(null(), has("a", num(1)), is("b", data(num(2), "e"))), shape(null(), above...), shape(ref(10), own...), shape(null(), has("a", ref(attributes)), has("z", ref(fields)), has("b", ref(attributes))))
			for n, x := range []act{
				ask("DefineProperty", ref(asked), text("a"), ref(attributes)), ask("DefineProperty", ref(asked), text("b"), ref(attributes)), ask("DefineProperty", ref(asked), ref(named), ref(attributes)), ask("DefineProperty", ref(asked), text("new"), ref(attributes)),
				ask("DefineProperties", ref(asked), ref(all)), ask("Create", ref(other), ref(all)), ask("DefineProperties", ref(attributes), ref(all)),
			} {
				if (n+i)%2 == 0 || j == 0 {
					plotted(c, x).holds(t, x, ends()[(i+j)%len(ends()):][:1])
				}
			}
		}
	}
}

// Attributes that are no object: the key has been asked by then; so have the properties ahead, and nothing is defined.
func TestNoAttributes(t *testing.T) {
	for _, v := range plain() {
		c := around(shape(null(), has("a", num(1))), shape(null(), has("a", ref(fields)), has("b", v), has("c", ref(fields))))
		for _, x := range []act{ask("DefineProperty", ref(asked), ref(named), v), ask("DefineProperties", ref(asked), ref(10)), ask("Create", null(), ref(10))} {
			p := plotted(c, x)
			if !sameError(p.wrong, typeError()) {
				t.Fatalf("%v: %v", x, p.wrong)
			}
			p.holds(t, x, ends())
		}
	}
}

// A property that is not defined as it should be throws, and the ones behind it are not defined.
func TestNotDefined(t *testing.T) {
	for n := range 4 {
		var l []api.Prop
		for i := range 4 {
			l = append(l, has(strconv.Itoa(i), ref(fields)))
		}
		c := around(shape(null(), is(strconv.Itoa(n), data(num(1), ""))), shape(null(), l...))
		x := ask("DefineProperties", ref(asked), ref(10))
		p := plotted(c, x)
		if s := p.now()[asked-1]; !sameError(p.wrong, typeError()) || len(s.Props) != 1+n {
			t.Fatalf("%v: %v, %v", x, p.wrong, s)
		}
		p.holds(t, x, ends())
	}
}

// Lists of arguments: of any length, with members of their own, of their prototypes, of getters, and without.
func TestLists(t *testing.T) {
	t.Parallel()
	for n := range 6 {
		for _, length := range []float64{float64(n), float64(n) + 0.5, -1, nan, endless, api.MaxArgs + 1} {
			l := []api.Prop{has("0", num(7)), is("1", accessor(ref(answers), undefined(), "")), is("3", data(ref(other), "")), is("length", data(num(length), ""))}
			c := around(shape(ref(10), l...), shape(null(), has("2", text("of 10")), is("3", accessor(ref(leads), undefined(), ""))))
			for _, x := range []act{ask("Apply", ref(leads), num(1), ref(asked)), ask("Construct", ref(leads), ref(asked), ref(answers)), ask("Apply", ref(answers), ref(asked), ref(asked)), ask("Apply", ref(asked), ref(asked), ref(asked))} {
				plotted(c, x).holds(t, x, ends()[n:][:2])
			}
		}
	}
}

// A list may be of 1024 members, and no more.
func TestLongLists(t *testing.T) {
	for n := api.MaxArgs - 1; n <= api.MaxArgs+1; n++ {
		c := around(shape(null(), is("length", data(num(float64(n)), "")), has("3", num(1))))
		for _, x := range []act{ask("Apply", ref(answers), null(), ref(asked)), ask("Construct", ref(leads), ref(asked), ref(leads))} {
			p, long := plotted(c, x), n > api.MaxArgs
			if long != (p.wrong == api.ErrLong) || long && len(p.lines) != 1 {
				t.Fatalf("%v: %v", x, p.wrong)
			}
			for more := range 2 {
				p.comes(t, x, stage{2000 + more, 2, 0}, nil, ending{p.lines, len(p.lines), p.now(), p.want, p.wrong})
			}
		}
	}
}

// Of values that are no objects a new object is made, and nothing else is asked than of that.
func TestPlainValues(t *testing.T) {
	for _, v := range plain() {
		if v.Kind == api.KStr && v.Str != "" {
			continue
		}
		for i, name := range makesObject() {
			for _, k := range []api.Value{ref(named), text(""), ref(asked)} {
				x := ask(name, slices.Repeat([]api.Value{k}, takes()[name])...)
				x.v[0] = v
				plotted(around(shape(null(), has("a", num(1)))), x).holds(t, x, ends()[i:][:1])
			}
		}
		for _, x := range []act{ask("DefineProperties", ref(asked), v), ask("Create", ref(other), v), ask("Assign", ref(asked), v, ref(other), v), ask("Tag", v), ask("IsArray", v), ask("Tag", ref(asked))} {
			plotted(around(shape(null(), has("a", num(1)))), x).holds(t, x, ends()[:1])
		}
	}
}

// What is assigned is put: setters are called, and what cannot be set throws; what was put ahead of it stays.
func TestAssign(t *testing.T) {
	t.Parallel()
	var ways []api.Prop
	for _, d := range descs() {
		ways = append(ways, is("a", d))
	}
	for i, own := range ways {
		for j, above := range ways {
			if i%19 != j%19 {
				continue
			}
			source := shape(null(), has("c", num(8)), is("b", above.Desc), is("a", own.Desc), has("0", num(7)))
			for _, target := range []api.Shape{shape(ref(10), own), shape(ref(10), is("b", own.Desc)), shut(shape(null(), has("0", num(1)), own))} {
				c := around(target, shape(null(), above, is("c", accessor(undefined(), ref(answers), ""))), source)
				x := ask("Assign", ref(asked), ref(11), null(), ref(other))
				plotted(c, x).holds(t, x, ends()[i%len(ends()):][:1])
			}
		}
	}
}

// The word of a tag: a string of the object's own, of its prototype, or of a getter; nothing else is one.
func TestTagWords(t *testing.T) {
	for _, v := range append(plain(), ref(other)) {
		for _, d := range []api.Desc{data(v, ""), accessor(ref(answers), undefined(), "")} {
			own := marked(api.SymToStringTag, d)
			for _, c := range []cast{around(shape(null(), own)), around(shape(ref(10)), shape(ref(other), own)), around(shape(ref(10), marked(api.SymToStringTag, data(text("near"), ""))), shape(null(), own))} {
				c.answers[answers] = v
				x := ask("Tag", ref(asked))
				plotted(c, x).holds(t, x, ends())
				c.shapes[answers-1].Props = []api.Prop{own}
				y := ask("Tag", ref(answers))
				plotted(c, y).holds(t, y, ends())
			}
		}
	}
}
