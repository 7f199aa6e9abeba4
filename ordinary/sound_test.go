package ordinary_test

import (
	"fmt"
	"math"
	"math/rand"
	"slices"
	"strings"
	"testing"

	"cameo/api"
	"cameo/key"
	"cameo/ordinary"
	"cameo/value"
)

// shape is one with a prototype and some properties.
func shape(proto api.Value, props ...api.Prop) api.Shape {
	return api.Shape{Class: api.COrdinary, Proto: proto, Extensible: true, Props: props}
}

func proxyShape(proto api.Value) api.Shape { return api.Shape{Class: api.CProxy, Proto: proto} }

// row is shapes without properties, with these prototypes: 0 is null.
func row(protos ...int) []api.Shape {
	var l []api.Shape
	for _, p := range protos {
		v := null()
		if p != 0 {
			v = ref(p)
		}
		l = append(l, shape(v))
	}
	return l
}

// through is a row in which one is a proxy.
func through(proxy int, protos ...int) []api.Shape {
	l := row(protos...)
	l[proxy-1].Class = api.CProxy
	return l
}

func found(t *testing.T, l []api.Shape, want int) {
	t.Helper()
	if got := ordinary.Sound(l); got != want {
		t.Fatalf("9.12: %d, want %d: %.2000s", got, want, fmt.Sprint(l))
	}
}

// 9.12: prototypes, and the rounds that they may make.
func TestSoundPrototypes(t *testing.T) {
	found(t, nil, -1)
	found(t, []api.Shape{}, -1)
	found(t, []api.Shape{{}}, 0) // no value is no prototype
	for _, c := range []struct {
		l    []api.Shape
		want int
	}{
		{row(0), -1}, {row(0, 0, 0), -1}, {row(0, 1, 2, 3), -1}, {row(2, 3, 4, 0), -1}, {row(3, 1, 0), -1}, {row(0, 1, 1, 1), -1},
		{row(1), 0}, {row(2, 1), 0}, {row(0, 2), 1}, {row(0, 3, 2), 1}, {row(0, 1, 4, 3), 2}, {row(2, 3, 1), 0}, // rounds
		{row(2, 3, 2), 0}, {row(3, 0, 3), 0}, {row(0, 4, 0, 4), 1}, {row(0, 1, 5, 3, 4), 2}, {row(0, 0, 4, 5, 6, 5), 2}, // what leads into one
		{row(2), 0}, {row(0, 3), 1}, {row(2, 3), 1}, {row(0, 1, 9), 2}, // none of them
		{through(1, 1), -1}, {through(1, 2, 1), -1}, {through(2, 2, 1), -1}, {through(2, 2, 2), -1}, {through(3, 2, 3, 1), -1}, {through(3, 2, 3, 2), -1}, // the proxy is the last
		{through(1, 0), -1}, {through(1, 2), 0}, {through(1, 2, 3, 2), 1}, {through(2, 0, 3, 4, 3), 2}, {through(1, 0, 3, 4, 3), 1}, // other rounds stay
		{through(4, 2, 3, 1, 0), 0}, {through(4, 2, 3, 4, 1), -1}, {through(5, 5, 1, 2, 3, 4), -1},
	} {
		found(t, c.l, c.want)
	}
	for _, v := range append(allBroken(), api.Value{}, undefined(), num(0), num(1), text(""), text("x"), api.Value{Kind: api.KBool, Bool: true}, api.Value{Kind: api.KSym, Id: 1}) {
		found(t, []api.Shape{shape(v), shape(null())}, 0)
		found(t, []api.Shape{shape(null()), shape(null()), proxyShape(v)}, 2)
		found(t, []api.Shape{shape(ref(2)), shape(v)}, 1) // the one that leads there is sound
	}
}

// 9.12: an object that is none, because its value is not well formed, leads nowhere.
func TestSoundBrokenReference(t *testing.T) {
	bent := api.Value{Kind: api.KRef, Id: 1, Num: 1}
	found(t, []api.Shape{shape(ref(2)), shape(bent)}, 1)
	found(t, []api.Shape{shape(bent)}, 0)
}

// 9.12: classes other than that of proxies, and whether it is extensible, are nobody's matter.
func TestSoundClasses(t *testing.T) {
	for class := -1; class < 20; class++ {
		for _, extensible := range []bool{true, false} {
			found(t, []api.Shape{{Class: class, Proto: null(), Extensible: extensible}, {Class: class, Proto: ref(1), Extensible: extensible}}, -1)
			want := 0
			if class == api.CProxy {
				want = -1
			}
			found(t, []api.Shape{{Class: class, Proto: ref(1), Extensible: extensible}}, want)
		}
	}
}

// 9.12: keys.
func TestSoundKeys(t *testing.T) {
	one := data(num(1), "")
	l := []api.Shape{shape(null()), shape(ref(1), api.Prop{Key: str(""), Desc: one}, api.Prop{Key: str("a"), Desc: one}, api.Prop{Key: sym(1), Desc: one}, api.Prop{Key: str("1"), Desc: one}, api.Prop{Key: str("01"), Desc: one}, api.Prop{Key: sym(65536), Desc: one}, api.Prop{Key: str(strings.Repeat("x", api.MaxStr)), Desc: one})}
	found(t, l, -1)
	for i := range l[1].Props {
		for _, k := range append(allBrokenKeys(), l[1].Props[(i+1)%len(l[1].Props)].Key) {
			bad := []api.Shape{l[0], shape(ref(1), slices.Clone(l[1].Props)...), l[0]}
			bad[1].Props[i].Key = k
			found(t, bad, 1)
		}
	}
	// One key in two shapes is none that stands twice.
	found(t, []api.Shape{l[0], l[1], l[1]}, -1)
}

// 9.12: descriptors.
func TestSoundDescriptors(t *testing.T) {
	with := func(d api.Desc) []api.Shape {
		return []api.Shape{shape(null()), shape(null(), api.Prop{Key: str("a"), Desc: data(num(1), "")}, api.Prop{Key: str("b"), Desc: d}), shape(ref(1))}
	}
	for _, d := range append(some(1), data(ref(3), ""), data(ref(2), "wec"), accessor(ref(3), ref(2), "c")) { // what can be called is not asked
		found(t, with(d), -1)
	}
	whole, both := data(num(1), "wec"), accessor(ref(1), undefined(), "")
	for _, d := range []api.Desc{
		{}, {Value: num(1)}, {Writable: api.Yes}, {Enumerable: api.Yes, Configurable: api.Yes}, {Get: ref(1), Set: ref(1)},
		{Value: whole.Value, Writable: api.Yes, Enumerable: api.Yes}, {Value: whole.Value, Writable: api.Yes, Configurable: api.Yes}, {Value: whole.Value, Enumerable: api.Yes, Configurable: api.Yes}, {Writable: api.No, Enumerable: api.Yes, Configurable: api.Yes},
		{Get: both.Get, Enumerable: api.No, Configurable: api.No}, {Set: both.Get, Enumerable: api.No, Configurable: api.No}, {Get: both.Get, Set: both.Set, Enumerable: api.No}, {Get: both.Get, Set: both.Set, Configurable: api.No},
		{Get: both.Get, Set: both.Set, Enumerable: api.No, Configurable: api.No, Writable: api.No}, {Get: both.Get, Set: both.Set, Enumerable: api.No, Configurable: api.No, Value: num(1)},
		{Value: num(1), Writable: 3, Enumerable: api.Yes, Configurable: api.Yes}, {Value: num(1), Writable: api.No, Enumerable: -1, Configurable: api.Yes},
		accessor(num(1), undefined(), ""), accessor(undefined(), null(), ""),
		data(ref(4), ""), data(ref(65536), "w"), accessor(ref(4), undefined(), ""), accessor(ref(1), ref(4), ""),
	} {
		found(t, with(d), 1)
	}
	for _, v := range allBroken() {
		found(t, with(data(v, "w")), 1)
		found(t, with(accessor(v, undefined(), "")), 1)
		found(t, with(accessor(undefined(), v, "")), 1)
	}
}

// 9.12: of several that break something the first one counts, whatever it is that they break.
func TestSoundTellsTheFirst(t *testing.T) {
	one := data(num(1), "")
	bad := []api.Shape{
		shape(undefined()), shape(ref(9)), shape(null(), api.Prop{Key: sym(-1), Desc: one}), shape(null(), api.Prop{Key: sym(1), Desc: one}, api.Prop{Key: sym(1), Desc: one}), shape(null(), api.Prop{Key: str("a")}), shape(null(), api.Prop{Key: str("a"), Desc: data(ref(9), "")}),
	}
	for at := range 4 {
		for _, s := range bad {
			for _, later := range bad {
				l := row(0, 0, 0, 0, 0)
				l[at], l[4] = s, later
				found(t, l, at)
				l[3].Proto = ref(4) // a round behind it, or with it
				found(t, l, at)
			}
		}
	}
	// What leads into a round stands ahead of what is broken.
	found(t, []api.Shape{shape(ref(3)), shape(undefined()), shape(ref(3))}, 0)
	found(t, []api.Shape{shape(ref(4)), shape(undefined()), shape(ref(3)), shape(ref(2))}, 1)
}

// 9.12: more shapes than a heap can have: those beyond can be no prototypes and no values.
func TestSoundOfMany(t *testing.T) {
	n := api.MaxObjects + 3
	l := slices.Repeat([]api.Shape{shape(ref(1))}, n)
	l[0].Proto = null()
	found(t, l, -1)
	l[5].Proto = ref(api.MaxObjects)
	found(t, l, -1)
	l[7].Proto = ref(api.MaxObjects + 1)
	found(t, l, 7)
	// A chain as long as can be, and a round of that length.
	for i := range l {
		l[i].Proto = ref(min(i+2, api.MaxObjects))
	}
	l[api.MaxObjects-1].Proto = null()
	found(t, l, -1)
	l[api.MaxObjects-1].Proto = ref(2)
	found(t, l, 0)
	l[0].Proto = null()
	found(t, l, 1)
	l[api.MaxObjects-1].Class = api.CProxy
	found(t, l, -1)
}

// breaks is a second reading: it asks of one shape alone, and takes as many steps as there are shapes, to see whether it still goes on.
func breaks(l []api.Shape, i int) bool {
	among := func(v api.Value) bool {
		return v == ref(v.Id) && !math.Signbit(v.Num) && v.Id >= 1 && v.Id <= min(len(l), 65536)
	}
	s := l[i]
	if p := s.Proto; !among(p) && (p != null() || math.Signbit(p.Num)) {
		return true
	}
	at, steps := i, 0
	for ; steps <= len(l) && l[at].Class != api.CProxy && among(l[at].Proto); steps++ {
		at = l[at].Proto.Id - 1
	}
	if steps > len(l) {
		return true
	}
	for j, p := range s.Props {
		twice := slices.ContainsFunc(s.Props[:j], func(x api.Prop) bool { return x.Key == p.Key })
		if key.Check(p.Key) != api.OK || twice || !whole(p.Desc, among) {
			return true
		}
	}
	return false
}

// whole is a second reading of what a property's descriptor must be, objects being among some.
func whole(d api.Desc, among func(api.Value) bool) bool {
	flag := func(t api.Tri) bool { return t == api.No || t == api.Yes }
	none := func(v api.Value) bool { return v == api.Value{} && !math.Signbit(v.Num) }
	plain := func(v api.Value) bool { return value.Check(v) == api.OK && (v.Kind != api.KRef || among(v)) }
	function := func(v api.Value) bool { return plain(v) && (v == undefined() || v.Kind == api.KRef) }
	if !flag(d.Enumerable) || !flag(d.Configurable) {
		return false
	}
	return plain(d.Value) && flag(d.Writable) && none(d.Get) && none(d.Set) ||
		none(d.Value) && d.Writable == api.Absent && function(d.Get) && function(d.Set)
}

// 9.12: both readings agree on shapes of all kinds.
func TestTwoReadings(t *testing.T) {
	counts := map[bool]int{}
	for seed := range int64(60000) {
		r := rand.New(rand.NewSource(seed))
		l := make([]api.Shape, r.Intn(7))
		wild := r.Intn(3) > 0
		for i := range l {
			l[i] = randomShape(r, len(l), wild)
		}
		want := -1
		for i := range l {
			if breaks(l, i) {
				want = i
				break
			}
		}
		counts[want == -1]++
		if got := ordinary.Sound(l); got != want {
			t.Fatalf("9.12: seed %d: %d, want %d: %v", seed, got, want, l)
		}
	}
	if counts[true] < 3000 || counts[false] < 3000 {
		t.Errorf("too few of a kind: %v", counts)
	}
}

func randomShape(r *rand.Rand, n int, wild bool) api.Shape {
	s := api.Shape{Class: []int{1, 1, 1, 9, 3}[r.Intn(5)], Proto: null(), Extensible: r.Intn(2) == 0}
	if r.Intn(2) == 0 {
		s.Proto = ref(1 + r.Intn(n))
	}
	if wild && r.Intn(20) == 0 {
		s.Proto = append(broken(), undefined(), num(1), api.Value{}, ref(n+1))[r.Intn(len(broken())+4)]
	}
	for i := range r.Intn(4) {
		p := api.Prop{Key: str(string(rune('a' + i))), Desc: some(1)[r.Intn(10)]}
		if r.Intn(2) == 0 {
			p.Desc = data(ref(1+r.Intn(n)), "w")
		}
		if wild && r.Intn(8) == 0 {
			p = bent(r, n, p)
		}
		s.Props = append(s.Props, p)
	}
	return s
}

// bent is a property with one thing otherwise, which may break it or not.
func bent(r *rand.Rand, n int, p api.Prop) api.Prop {
	switch r.Intn(6) {
	case 0:
		p.Key = []api.Key{str("a"), str("b"), str("\xff"), sym(-1), sym(2), {Str: "a", Sym: 1}}[r.Intn(6)]
	case 1:
		p.Desc.Enumerable = api.Tri(r.Intn(5) - 1)
	case 2:
		p.Desc.Configurable = api.Tri(r.Intn(5) - 1)
	case 3:
		p.Desc.Writable = api.Tri(r.Intn(5) - 1)
	case 4:
		p.Desc.Value = append(broken(), ref(n), ref(n+1), api.Value{})[r.Intn(len(broken())+3)]
	case 5:
		p.Desc.Get = append(broken(), ref(n), ref(n+1), api.Value{})[r.Intn(len(broken())+3)]
	}
	return p
}
