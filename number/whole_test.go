package number_test

import (
	"math"
	"math/big"
	"slices"
	"testing"

	"cameo/api"
	"cameo/number"
)

// moduloEdges are numbers around the powers of two at which bits are cut, with fractions and signs.
func moduloEdges() []float64 {
	var l []float64
	for _, e := range []int{0, 1, 7, 8, 15, 16, 31, 32, 33, 52, 53, 54, 63, 64, 83, 84, 85, 1023} {
		p := math.Ldexp(1, e)
		for _, d := range []float64{-1.5, -1, -0.5, 0, 0.5, 1, 1.5} {
			l = append(l, p+d, -p+d)
		}
	}
	return l
}

func TestInteger(t *testing.T) { // 2.8
	for _, x := range append(numbers(), moduloEdges()...) {
		want := x
		switch {
		case x != x || x > -1 && x < 1:
			want = 0
		case isFinite(x):
			n, _ := new(big.Float).SetFloat64(x).Int(nil)
			want, _ = new(big.Float).SetInt(n).Float64()
		}
		if y := number.Integer(x); !same(y, want) {
			t.Errorf("Integer(%v): %v, want %v", x, y, want)
		}
	}
	for x, want := range map[float64]float64{-0.5: 0, -7.9: -7, 7.9: 7, 0.99999: 0, -1: -1, -1.5: -1} {
		if y := number.Integer(x); !same(y, want) {
			t.Errorf("Integer(%v): %v, want %v", x, y, want)
		}
	}
	if !same(number.Integer(minus0), 0) {
		t.Error("Integer(-0)")
	}
}

func TestModulo(t *testing.T) { // 2.8
	if number.Int32(2147483648) != -2147483648 || number.Int32(-1.5) != -1 || number.Uint32(-1) != 4294967295 || number.Int8(200) != -56 {
		t.Error("the chapter's examples")
	}
	if number.Int16(32768) != -32768 || number.Uint16(-1) != 65535 || number.Uint8(-1.9) != 255 || number.Int8(-129) != 127 || number.Uint16(65536.7) != 0 || number.Int32(1e300) != 0 {
		t.Error("examples")
	}
	for _, x := range append(numbers(), moduloEdges()...) {
		n := slowModulo(x, 32)
		if number.Uint32(x) != uint32(n) || number.Int32(x) != signed(n, 32) {
			t.Errorf("32 bits of %v: %d, %d", x, number.Uint32(x), number.Int32(x))
		}
		n = slowModulo(x, 16)
		if uint64(number.Uint16(x)) != n || int32(number.Int16(x)) != signed(n, 16) {
			t.Errorf("16 bits of %v: %d, %d", x, number.Uint16(x), number.Int16(x))
		}
		n = slowModulo(x, 8)
		if uint64(number.Uint8(x)) != n || int32(number.Int8(x)) != signed(n, 8) {
			t.Errorf("8 bits of %v: %d, %d", x, number.Uint8(x), number.Int8(x))
		}
	}
}

// signed is a number from 0 on as one from minus a half of the modulus on.
func signed(n uint64, bits uint) int32 {
	if n >= 1<<(bits-1) {
		return int32(int64(n) - 1<<bits)
	}
	return int32(n)
}

func TestClamp8(t *testing.T) { // 2.8
	for x, want := range map[float64]uint8{2.5: 2, 3.5: 4, 254.5: 254, 0.5: 0, 1.5: 2, 255: 255, 255.4: 255, 255.5: 255, 256: 255, 1e300: 255, inf: 255, -0.1: 0, -1: 0, -300: 0, -inf: 0, 0.50001: 1, 253.5: 254, 254.6: 255} {
		if y := number.Clamp8(x); y != want {
			t.Errorf("Clamp8(%v): %d, want %d", x, y, want)
		}
	}
	for _, x := range numbers() {
		if y := number.Clamp8(x); int(y) != slowClamp(x) {
			t.Errorf("Clamp8(%v): %d, want %d", x, y, slowClamp(x))
		}
	}
}

// slowClamp is Clamp8 by the words of 2.8.
func slowClamp(x float64) int {
	switch {
	case x != x || x < 0:
		return 0
	case x > 255:
		return 255
	}
	n := 0
	for float64(n)+1 <= x {
		n++
	}
	rest := x - float64(n)
	if rest > 0.5 || rest == 0.5 && n%2 == 1 {
		n++
	}
	return n
}

func TestLengthAndIndex(t *testing.T) { // 2.8
	for _, c := range []struct {
		x      float64
		length int64
		index  int64
		e      api.Errno
	}{
		{nan, 0, 0, 0}, {0, 0, 0, 0}, {minus0, 0, 0, 0}, {-0.5, 0, 0, 0}, {-0.99, 0, 0, 0}, {-1, 0, 0, api.ErrRange}, {-1.5, 0, 0, api.ErrRange}, {-inf, 0, 0, api.ErrRange}, {-1e300, 0, 0, api.ErrRange},
		{0.9, 0, 0, 0}, {1, 1, 1, 0}, {3.7, 3, 3, 0}, {1 << 32, 1 << 32, 1 << 32, 0}, {maxSafe - 1, api.MaxSafe - 1, api.MaxSafe - 1, 0}, {maxSafe, api.MaxSafe, api.MaxSafe, 0},
		{maxSafe + 1, api.MaxSafe, 0, api.ErrRange}, {1e300, api.MaxSafe, 0, api.ErrRange}, {inf, api.MaxSafe, 0, api.ErrRange}, {4503599627370495.5, 4503599627370495, 4503599627370495, 0},
	} {
		if n := number.Length(c.x); n != c.length {
			t.Errorf("Length(%v): %d", c.x, n)
		}
		if n, e := number.Index(c.x); n != c.index || e != c.e {
			t.Errorf("Index(%v): %d, %d", c.x, n, e)
		}
	}
	for _, x := range numbers() {
		n, e := number.Index(x)
		if whole := number.Integer(x); whole < 0 || whole > maxSafe {
			if n != 0 || e != api.ErrRange {
				t.Errorf("Index(%v): %d, %d", x, n, e)
			}
			if want := whole > 0; (number.Length(x) == api.MaxSafe) != want || !want && number.Length(x) != 0 {
				t.Errorf("Length(%v): %d", x, number.Length(x))
			}
		} else if e != api.OK || float64(n) != whole || number.Length(x) != n {
			t.Errorf("Index(%v): %d, %d, Length: %d", x, n, e, number.Length(x))
		}
	}
}

func TestOneAgainstAnother(t *testing.T) { // 2.9
	for _, x := range few() {
		for _, y := range few() {
			bothNaN, noughts := x != x && y != y, x == 0 && y == 0
			equalBits := bitsOf(x) == bitsOf(y)
			if number.Same(x, y) != (bothNaN || equalBits) {
				t.Errorf("Same(%v, %v)", x, y)
			}
			if number.Same0(x, y) != (bothNaN || equalBits || noughts) {
				t.Errorf("Same0(%v, %v)", x, y)
			}
			if number.Equal(x, y) != (x == x && y == y && (equalBits || noughts)) {
				t.Errorf("Equal(%v, %v)", x, y)
			}
			less, ordered := number.Less(x, y)
			if x != x || y != y {
				if less || ordered {
					t.Errorf("Less(%v, %v): %t, %t", x, y, less, ordered)
				}
			} else if less != (rank(x) < rank(y)) || !ordered {
				t.Errorf("Less(%v, %v): %t, %t", x, y, less, ordered)
			}
		}
	}
}

// rank is a number's place in the order of all, by its bits: both noughts have one.
func rank(x float64) int64 {
	n := int64(bitsOf(x) &^ (1 << 63))
	if bitsOf(x)>>63 == 1 {
		return -n
	}
	return n
}

func TestRem(t *testing.T) { // 2.10
	for _, c := range [][3]float64{
		{5.5, 2, 1.5}, {-4, 2, minus0}, {1e308, 3, 2}, {4, 2, 0}, {4, -2, 0}, {-5.5, 2, -1.5}, {-5.5, -2, -1.5}, {5.5, -2, 1.5},
		{nan, 1, nan}, {1, nan, nan}, {nan, nan, nan}, {inf, 1, nan}, {-inf, 1, nan}, {inf, inf, nan}, {1, 0, nan}, {1, minus0, nan}, {0, 0, nan}, {inf, 0, nan}, {inf, nan, nan}, {nan, inf, nan}, {0, nan, nan},
		{3, inf, 3}, {-3, inf, -3}, {3, -inf, 3}, {0, 5, 0}, {minus0, 5, minus0}, {0, inf, 0}, {minus0, -inf, minus0}, {minus0, -5, minus0},
		{most, least, 0}, {-most, least, minus0}, {least, most, least}, {3 * least, 2 * least, least}, {1, 3, 1}, {0.3, 0.1, 0.09999999999999998},
	} {
		if r := number.Rem(c[0], c[1]); !same(r, c[2]) {
			t.Errorf("Rem(%v, %v): %v, want %v", c[0], c[1], r, c[2])
		}
	}
	list := few()
	for i := range 6 {
		list = append(list, math.Nextafter(list[20+i], inf))
	}
	for _, x := range list {
		for _, y := range list {
			if r := number.Rem(x, y); !same(r, slowRem(x, y)) {
				t.Errorf("Rem(%v, %v): %v, want %v", x, y, r, slowRem(x, y))
			}
		}
	}
}

func TestShifts(t *testing.T) { // 2.10
	if number.Shl(1, 33) != 2 || number.Shr(-8, 1) != -4 || number.Ushr(-1, 28) != 15 || number.Shl(1, 31) != -2147483648 || number.Shr(-1, -1) != -1 || number.Ushr(-1, -1) != 1 {
		t.Error("examples")
	}
	shifts := []float64{0, minus0, 1, 1.9, 7, 30, 31, 32, 33, 63, 64, 65, -1, -31, -32, -33, 1 << 32, 1<<32 + 3, -1.5, 1e300, nan, inf, -inf, 0.5}
	for _, x := range append(few(), moduloEdges()...) {
		for _, y := range shifts {
			n, places := big.NewInt(int64(slowModulo(x, 32))), uint(slowModulo(y, 32)%32)
			left := new(big.Int).Lsh(n, places)
			if want := signed(left.Uint64()%(1<<32), 32); number.Shl(x, y) != want {
				t.Errorf("Shl(%v, %v): %d, want %d", x, y, number.Shl(x, y), want)
			}
			right := new(big.Int).Div(big.NewInt(int64(signed(n.Uint64(), 32))), new(big.Int).Lsh(big.NewInt(1), places))
			if int64(number.Shr(x, y)) != right.Int64() {
				t.Errorf("Shr(%v, %v): %d, want %d", x, y, number.Shr(x, y), right)
			}
			if want := n.Rsh(n, places).Uint64(); uint64(number.Ushr(x, y)) != want {
				t.Errorf("Ushr(%v, %v): %d, want %d", x, y, number.Ushr(x, y), want)
			}
		}
	}
}

func TestOrderOfTexts(t *testing.T) { // 2.13
	list := append(few(), 0.125, 0.1249, 0.1251, 0.995, 0.99499, 1e21, math.Nextafter(1e21, 0), math.Nextafter(1e21, inf), 9.995, 99.95, 1e-6, 9.9999e-7)
	list = slices.DeleteFunc(list, func(x float64) bool { return x != x })
	slices.Sort(list)
	for digits := range 101 {
		last, lastP := -inf, -inf
		for _, x := range list {
			s, e := number.Fixed(x, digits)
			if y := number.Parse(s); e != api.OK || !(y >= last) {
				t.Errorf("Fixed(%v, %d) is %q, less than %v", x, digits, s, last)
			} else {
				last = y
			}
			if digits == 0 {
				continue
			}
			s, e = number.Precision(x, digits)
			if y := number.Parse(s); e != api.OK || !(y >= lastP) {
				t.Errorf("Precision(%v, %d) is %q, less than %v", x, digits, s, lastP)
			} else {
				lastP = y
			}
		}
	}
}

func TestFewerBits(t *testing.T) { // 2.14
	for _, x := range append(numbers(), moduloEdges()...) {
		n := number.Uint32(x)
		if uint32(number.Int32(x)) != n || uint16(number.Int16(x)) != uint16(n) || number.Uint16(x) != uint16(n) || uint8(number.Int8(x)) != uint8(n) || number.Uint8(x) != uint8(n) {
			t.Errorf("bits of %v", x)
		}
		if uint32(number.Int32(number.Rem(x, 1<<32))) != n {
			t.Errorf("Rem(%v, 2^32): %v", x, number.Rem(x, 1<<32))
		}
		if number.Ushr(x, 0) != n || number.Shl(x, 0) != number.Int32(x) || number.Shr(x, 0) != number.Int32(x) {
			t.Errorf("shifts of %v by 0", x)
		}
	}
}

func TestEquivalences(t *testing.T) { // 2.16
	list := few()
	for name, same := range map[string]func(x, y float64) bool{"Same": number.Same, "Same0": number.Same0} {
		for _, x := range list {
			if !same(x, x) {
				t.Errorf("%s(%v, %v)", name, x, x)
			}
			for _, y := range list {
				if same(x, y) != same(y, x) {
					t.Errorf("%s(%v, %v) and turned round", name, x, y)
				}
				for _, z := range list {
					if same(x, y) && same(y, z) && !same(x, z) {
						t.Errorf("%s of %v, %v, %v", name, x, y, z)
					}
				}
			}
		}
	}
	for _, x := range list {
		for _, y := range list {
			less, ordered := number.Less(x, y)
			more, orderedToo := number.Less(y, x)
			n := 0
			for _, holds := range []bool{less, more, number.Equal(x, y)} {
				if holds {
					n++
				}
			}
			want := 1
			if x != x || y != y {
				want = 0
			}
			if n != want || ordered != (want == 1) || orderedToo != ordered {
				t.Errorf("%v and %v: %t, %t, %t", x, y, less, more, number.Equal(x, y))
			}
		}
	}
}
