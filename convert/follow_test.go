package convert_test

// 12.10, 12.11: what follows, over values and objects drawn at random.

import (
	"slices"
	"testing"

	"cameo/api"
	"cameo/convert"
	"cameo/key"
	"cameo/number"
)

// some is values that are no objects: those of every kind, and others at random.
func some(seed int64, n int) []api.Value {
	c, l := newChance(seed), plain()
	for range n {
		l = append(l, c.plain())
	}
	return l
}

// 12.10: of values that are no objects nothing is entered and no fuel spent: there is none, and no object to enter.
func TestNothingIsEntered(t *testing.T) {
	empty, full := newHeap(t, 0, 0, 1), newHeap(t, 3, 7, 1)
	made(t, full, null())
	values := some(1, 150)
	for _, x := range acts() {
		for i, a := range values {
			b := values[(7*i+3)%len(values)]
			v, err := x.do(empty, a, b)
			w, wrong := x.do(full, a, b)
			if _, stops := err.(api.Errno); stops || !sameValue(v, w) || !sameError(err, wrong) || full.Fuel() != 7 || full.Len() != 1 {
				t.Errorf("12.10: %s of %v, %v: %v, %v; %v, %v, %d left", x.name, a, b, v, err, w, wrong, full.Fuel())
			}
		}
	}
}

// 12.10
func TestNumberThereAndBack(t *testing.T) {
	h, c := newHeap(t, 0, 0, 1), newChance(2)
	for range 20000 {
		x := c.float()
		s, err := convert.String(h, num(x))
		if err != nil {
			t.Fatal(err)
		}
		y, err := convert.Number(h, text(s))
		if x == 0 {
			x = 0
		}
		if err != nil || !sameValue(num(x), num(y)) {
			t.Fatalf("12.10: %v became %s, and %v, %v", x, s, y, err)
		}
	}
}

// 12.10: Primitive answers no object, whatever runs.
func TestPrimitiveIsPlain(t *testing.T) {
	t.Parallel()
	answers := 0
	for seed := range int64(1500) {
		h, c := build(t, seed, 6, byPackage)
		for range 8 {
			h.Refuel(100)
			v, err := convert.Primitive(h, c.mostly(), c.Intn(3))
			if err == nil {
				answers++
			}
			if err == nil && (v.Kind == api.KRef || h.Check(v) != api.OK) || err != nil && v != (api.Value{}) {
				t.Fatalf("12.10: seed %d: %v, %v", seed, v, err)
			}
		}
	}
	if answers < 3000 {
		t.Errorf("no more than %d answers", answers)
	}
}

// 12.10: Loose does not see which one stands first, and of a value and itself it is true.
func TestLooseBothWays(t *testing.T) {
	h := newHeap(t, 3, 0, 1)
	made(t, h, null())
	giving(t, h, num(1))
	values := some(3, 200)
	for _, a := range append(values, ref(1), ref(2)) {
		if ok, err := convert.Loose(h, a, a); ok != (a == a) || err != nil {
			t.Errorf("12.10: %v and itself: %v, %v", a, ok, err)
		}
	}
	held := 0
	for _, a := range values {
		for _, b := range values {
			ab, err := convert.Loose(h, a, b)
			ba, wrong := convert.Loose(h, b, a)
			if ab != ba || err != nil || wrong != nil {
				t.Errorf("12.10: %v and %v: %v, %v, %v, %v", a, b, ab, err, ba, wrong)
			}
			if ab {
				held++
			}
		}
	}
	if held < 2*len(values) {
		t.Errorf("no more than %d pairs are equal", held)
	}
}

// 12.11
func TestKeysThereAndBack(t *testing.T) {
	h, c := newHeap(t, 0, 0, 1), newChance(4)
	keys := []api.Key{toPrimitive, toString, str(""), str("-0"), str("0"), str("1e21"), str("\xed\xa0\xbd"), sym(1), sym(65536)}
	for range 500 {
		keys = append(keys, str(c.word()), sym(1+c.Intn(api.MaxSyms)))
	}
	for _, k := range keys {
		v, e := key.Value(k)
		if e != api.OK {
			t.Fatal(e)
		}
		if got, err := convert.Key(h, v); got != k || err != nil {
			t.Errorf("12.11: %v: %v, %v", k, got, err)
		}
	}
}

// 12.11: Less is number.Less of the Numbers, and where these have an order just one holds of three.
func TestLessIsOfNumbers(t *testing.T) {
	h := newHeap(t, 0, 0, 1)
	values := slices.DeleteFunc(some(5, 200), func(v api.Value) bool { return v.Kind == api.KSym })
	for _, a := range values {
		for _, b := range values {
			if a.Kind == api.KStr && b.Kind == api.KStr {
				continue
			}
			x, _ := convert.Number(h, a)
			y, _ := convert.Number(h, b)
			want, ordered := number.Less(x, y)
			back, _ := number.Less(y, x)
			for _, left := range []bool{true, false} {
				if is, ok, err := convert.Less(h, a, b, left); is != want || ok != ordered || err != nil {
					t.Errorf("12.11: %v, %v: %v, %v, %v", a, b, is, ok, err)
				}
			}
			holds := 0
			for _, is := range []bool{want, back, number.Equal(x, y)} {
				if is {
					holds++
				}
			}
			if ordered && holds != 1 || !ordered && holds != 0 {
				t.Errorf("12.11: %v, %v: %d of three hold", a, b, holds)
			}
		}
	}
}
