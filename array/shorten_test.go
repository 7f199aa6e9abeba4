package array_test

// 14.2: length defined with and without a Value, and what is taken away.

import (
	"strconv"
	"testing"

	"cameo/api"
	"cameo/desc"
)

// 14.2: without a Value length is a property like others.
func TestLengthWithoutValue(t *testing.T) {
	sides(func(w, x bool) {
		for _, d := range descs(ref(2)) {
			h := begun(t, 3, w, x, api.Prop{Key: at(1), Desc: data(num(1), "wec")})
			s, _ := h.Shape(1)
			next, ok, _ := desc.Apply(x, lying(s, str("length")), d)
			defined(t, h, str("length"), d, ok, func(s *api.Shape) { put(s, str("length"), next) })
		}
	})
}

// lengths is values of which each one is a length; wrong ones are such as are none.
func lengths() map[api.Value]float64 {
	return map[api.Value]float64{
		null(): 0, no(): 0, yes(): 1, num(0): 0, num(below0): 0, num(1): 1, num(2): 2, num(3): 3, num(4): 4, num(2147483648): 2147483648, num(4294967294): 4294967294, num(4294967295): 4294967295,
		text(""): 0, text(" "): 0, text("0"): 0, text("-0"): 0, text("2"): 2, text(" 2\n"): 2, text("2.0"): 2, text("0x2"): 2, text("0b11"): 3, text("0o4"): 4, text("+1"): 1, text("1e3"): 1000, text("4294967295"): 4294967295, text("42949672950e-1"): 4294967295,
	}
}

func noLengths() []api.Value {
	return []api.Value{
		undefined(), num(-1), num(-2), num(0.5), num(1.5), num(-0.5), num(2.0000000001), num(4294967294.5), num(4294967295.5), num(4294967296), num(4294967297), num(-4294967295), num(-4294967296), num(8589934592), num(1e300), num(5e-324), num(nan), num(endless), num(-endless),
		text("a"), text("1.5"), text("-1"), text("4294967296"), text("4294967297"), text("1 2"), text("NaN"), text("Infinity"), text("length"), text("2n"), text("\xed\xa0\xbd"),
	}
}

// 14.2: values of every kind that is no object; a Value that is a length is that number then, +0 too.
func TestLengthOfEveryKind(t *testing.T) {
	for v, n := range lengths() {
		for _, flags := range []string{"", "w"} {
			h := begun(t, 2, true, true, api.Prop{Key: at(1), Desc: data(num(1), "wec")})
			defined(t, h, str("length"), api.Desc{Value: v, Writable: flag(flags, "w")}, true, func(s *api.Shape) {
				put(s, str("length"), data(num(n), flags))
				if n < 2 {
					gone(s, "1")
				}
			})
			long(t, h, 1, uint32(n))
		}
	}
	for _, w := range []bool{true, false} {
		for _, v := range noLengths() {
			h := begun(t, 2, w, true, api.Prop{Key: at(1), Desc: data(num(1), "wec")})
			throws(t, h, 1, str("length"), api.Desc{Value: v}, rangeError())
			throws(t, h, 1, str("length"), api.Desc{Value: v, Writable: api.No}, rangeError())
			throws(t, h, 1, str("length"), api.Desc{Value: v, Configurable: api.Yes}, rangeError()) // ahead of what would be false
			if h.Fuel() != 97 {
				t.Errorf("14.2: %d left", h.Fuel())
			}
		}
		for _, v := range []api.Value{symbol(1), symbol(65536)} {
			h := begun(t, 2, w, true)
			throws(t, h, 1, str("length"), api.Desc{Value: v}, typeError())
		}
	}
}

// 14.2: every descriptor with a Value, that is less, the same or greater, of a length that can be written or not.
func TestLengthByEveryDescriptor(t *testing.T) {
	for _, n := range []float64{0, 1, 2, 3, 4, 4294967295} {
		for _, d := range descs(ref(2), num(n)) {
			if d.Value.Kind == api.KNone {
				continue
			}
			sides(func(w, x bool) {
				h := begun(t, 3, w, x, api.Prop{Key: at(1), Desc: data(num(1), "wec")}, api.Prop{Key: at(0), Desc: data(num(0), "wec")})
				allowed := d.Enumerable != api.Yes && d.Configurable != api.Yes && (w || n == 3 && d.Writable != api.Yes)
				defined(t, h, str("length"), d, allowed, func(s *api.Shape) {
					put(s, str("length"), data(num(n), "w"[:flagged(w && d.Writable != api.No)]))
					for i := range 2 {
						if float64(i) >= n {
							gone(s, strconv.Itoa(i))
						}
					}
				})
			})
		}
	}
}

// three is each of three for each of so many places.
func three(n int, visit func(l []int)) {
	l := make([]int, n)
	for {
		visit(l)
		i := 0
		for i < n && l[i] == 2 {
			l[i] = 0
			i++
		}
		if i == n {
			return
		}
		l[i]++
	}
}

// 14.2: arrays of up to five places, of which each is empty, has an element that can be taken away, or one that cannot: where taking away ends.
func TestWhereItEnds(t *testing.T) {
	const places = 5
	three(places, func(l []int) {
		for n := range places + 1 {
			for _, w := range []api.Tri{api.Absent, api.No, api.Yes} {
				h := begun(t, places, true, n%2 == 0, placed(l)...)
				want, end := h.Shapes(), places
				for end > n && l[end-1] != 2 {
					end--
					gone(&want[0], strconv.Itoa(end))
				}
				put(&want[0], str("length"), data(num(float64(end)), "w"[:flagged(w != api.No)]))
				defines(t, h, 1, str("length"), api.Desc{Value: num(float64(n)), Writable: w}, end == n)
				if got := h.Shapes(); !sameShapes(got, want) {
					t.Fatalf("14.2: %v to %d, %v: left %v, want %v", l, n, w, got[0], want[0])
				}
			}
		}
	})
}

// placed is elements, of which those that can be taken away are data or accessors, and those that cannot, too.
func placed(l []int) []api.Prop {
	var out []api.Prop
	for i, kind := range l {
		d := data(num(float64(i)), "we"+"c"[:2-max(kind, 1)])
		if i%2 == 1 {
			d = accessor(ref(2), undefined(), "e"+"c"[:2-max(kind, 1)])
		}
		if kind > 0 {
			out = append(out, api.Prop{Key: at(i), Desc: d})
		}
	}
	return out
}

// 14.2: by their numbers, from the greatest down, in whatever order they came; what is no element stays, though it looks like one.
func TestFromTheGreatestDown(t *testing.T) {
	open, fixed := data(num(1), "wec"), data(num(1), "we")
	h := begun(t, 0, true, true)
	for _, k := range noIndices() {
		define(t, h, 1, k, open)
	}
	for _, i := range []int{9, 10, 100, 4294967294, 2, 4294967293, 99, 11, 1000000000, 30} {
		define(t, h, 1, at(i), open)
	}
	define(t, h, 1, at(21), fixed)
	define(t, h, 1, at(3), fixed)
	for _, c := range []struct {
		n, end int
		gone   []string
	}{
		{4294967294, 4294967294, []string{"4294967294"}},
		{4294967293, 4294967293, []string{"4294967293"}},
		{1000000001, 1000000001, nil},
		{101, 101, []string{"1000000000"}},
		{100, 100, []string{"100"}},
		{9, 22, []string{"99", "30"}},
		{0, 22, nil},
		{21, 22, nil},
		{22, 22, nil},
	} {
		want := h.Shapes()
		gone(&want[0], c.gone...)
		put(&want[0], str("length"), data(num(float64(c.end)), "w"))
		h.Refuel(1)
		defines(t, h, 1, str("length"), api.Desc{Value: num(float64(c.n))}, c.end == c.n)
		if got := h.Shapes(); !sameShapes(got, want) {
			t.Errorf("14.2: to %d: left %v, want %v", c.n, got[0], want[0])
		}
	}
}

// 14.2: a length that has become read-only on the way stays where it ended, for ever.
func TestReadOnlyForEver(t *testing.T) {
	h := begun(t, 0, true, true)
	for i, flags := range []string{"wec", "we", "wec"} {
		define(t, h, 1, at(i), data(num(float64(i)), flags))
	}
	defines(t, h, 1, str("length"), api.Desc{Value: num(0), Writable: api.No}, false)
	lies(t, h, 1, str("length"), data(num(2), ""))
	holds(t, h, 1, num(0), num(1))
	for _, d := range []api.Desc{{Writable: api.Yes}, {Value: num(1)}, {Value: num(0), Writable: api.No}, {Value: num(3)}, {Value: num(2), Writable: api.Yes}, {Get: undefined()}} {
		defines(t, h, 1, str("length"), d, false)
	}
	for _, d := range []api.Desc{{}, {Writable: api.No}, {Value: num(2)}, {Value: text("2"), Writable: api.No, Enumerable: api.No, Configurable: api.No}} {
		defines(t, h, 1, str("length"), d, true)
	}
	defines(t, h, 1, at(2), data(num(5), "wec"), false)
	defines(t, h, 1, at(0), data(num(5), "wec"), true)
	holds(t, h, 1, num(5), num(1))
	lies(t, h, 1, str("length"), data(num(2), ""))
}
