package number_test

import (
	"math"
	"math/big"
	"strconv"
	"testing"

	"cameo/api"
	"cameo/number"
)

func TestDigits(t *testing.T) { // 2.1
	for _, c := range []struct {
		x      float64
		digits string
		n      int
	}{
		{1125899906842624.25, "11258999068426242", 16}, {1125899906842624.75, "11258999068426248", 16},
		{0, "", 0}, {minus0, "", 0}, {nan, "", 0}, {inf, "", 0}, {-inf, "", 0},
		{100, "1", 3}, {-100, "1", 3}, {0.1, "1", 0}, {0.001, "1", -2}, {1200, "12", 4}, {-12.5, "125", 2},
		{least, "5", -323}, {2 * least, "1", -322}, {most, "17976931348623157", 309},
		{maxSafe, "9007199254740991", 16}, {maxSafe + 1, "9007199254740992", 16}, {1e23, "1", 24},
		// Below a power of two the gap is a half of the gap above it: what is nearest may lie too far down.
		{math.Ldexp(1, -44), "5684341886080802", -13}, {math.Ldexp(1, 89), "6189700196426902", 27},
	} {
		if s, n := number.Digits(c.x); s != c.digits || n != c.n {
			t.Errorf("Digits(%v): %q, %d, want %q, %d", c.x, s, n, c.digits, c.n)
		}
	}
	for _, x := range numbers() {
		s, n := number.Digits(x)
		if want, m := slowDigits(x); s != want || n != m {
			t.Errorf("Digits(%v): %q, %d, want %q, %d", x, s, n, want, m)
		}
	}
}

func TestText(t *testing.T) { // 2.2
	for _, c := range []struct {
		x    float64
		text string
	}{
		{0.1, "0.1"}, {123456789012345680000, "123456789012345680000"}, {1e21, "1e+21"}, {0.000001, "0.000001"}, {1e-7, "1e-7"},
		{5e-324, "5e-324"}, {1.7976931348623157e308, "1.7976931348623157e+308"}, {minus0, "0"}, {0, "0"}, {nan, "NaN"}, {inf, "Infinity"}, {-inf, "-Infinity"},
		{1, "1"}, {-1, "-1"}, {12.5, "12.5"}, {-12.5, "-12.5"}, {1e20, "100000000000000000000"}, {-1e21, "-1e+21"}, {1.5e21, "1.5e+21"},
		{0.0000015, "0.0000015"}, {1.5e-7, "1.5e-7"}, {-1.25e-10, "-1.25e-10"}, {1e100, "1e+100"}, {0.5, "0.5"}, {999999999999999900000, "999999999999999900000"},
	} {
		if s := number.Text(c.x); s != c.text {
			t.Errorf("Text(%v): %q, want %q", c.x, s, c.text)
		}
	}
	for _, x := range numbers() {
		if s := number.Text(x); s != slowText(x) {
			t.Errorf("Text(%x): %q, want %q", bitsOf(x), s, slowText(x))
		}
	}
}

func TestRadix(t *testing.T) { // 2.3
	for _, c := range []struct {
		x    float64
		base int
		text string
	}{{255, 16, "ff"}, {-35, 36, "-z"}, {0, 2, "0"}, {minus0, 36, "0"}, {-10, 2, "-1010"}, {maxSafe, 36, "2gosa7pa2gv"}} {
		if s, e := number.Radix(c.x, c.base); s != c.text || e != api.OK {
			t.Errorf("Radix(%v, %d): %q, %d", c.x, c.base, s, e)
		}
	}
	for _, x := range append(numbers(), -maxSafe, maxSafe-1, 1-maxSafe) {
		for base := 2; base <= 36; base += 1 + int(bitsOf(x)%7) {
			s, e := number.Radix(x, base)
			if !isFinite(x) || x != math.Trunc(x) || math.Abs(x) > maxSafe {
				if s != "" || e != api.ErrRange {
					t.Errorf("Radix(%v, %d): %q, %d", x, base, s, e)
				}
				continue
			}
			if want := big.NewInt(int64(x)).Text(base); s != want || e != api.OK {
				t.Errorf("Radix(%v, %d): %q, %d, want %q", x, base, s, e, want)
			}
		}
	}
	for _, base := range []int{math.MinInt, -16, -1, 0, 1, 37, 64, math.MaxInt} {
		for _, x := range []float64{0, 1, -7, 0.5, nan, inf} {
			if s, e := number.Radix(x, base); s != "" || e != api.ErrRange {
				t.Errorf("Radix(%v, %d): %q, %d", x, base, s, e)
			}
		}
	}
}

// writer is one of the three calls that take a count of digits.
type writer func(float64, int) (string, api.Errno)

// checkWriter holds a call against its slow twin, over all counts of digits from the least on for some numbers, and over some counts for all.
func checkWriter(t *testing.T, name string, call writer, slow func(float64, int) string, from int) {
	t.Helper()
	check := func(x float64, digits int) {
		if s, e := call(x, digits); s != slow(x, digits) || e != api.OK {
			t.Errorf("%s(%x, %d): %q, %d, want %q", name, bitsOf(x), digits, s, e, slow(x, digits))
		}
	}
	for _, x := range few() {
		for digits := from; digits <= 100; digits++ {
			check(x, digits)
		}
	}
	for i, x := range numbers() {
		check(x, from+i%4)
		check(x, 5+i%16)
	}
}

// wrongCounts are counts of digits that no call takes.
func wrongCounts() []int { return []int{math.MinInt, -100, -2, 101, 102, 1000, math.MaxInt} }

func checkExamples(t *testing.T, name string, call writer, rows []example) {
	t.Helper()
	for _, c := range rows {
		if s, e := call(c.x, c.digits); s != c.text || e != api.OK {
			t.Errorf("%s(%v, %d): %q, %d, want %q", name, c.x, c.digits, s, e, c.text)
		}
	}
}

type example struct {
	x      float64
	digits int
	text   string
}

func TestFixed(t *testing.T) { // 2.4
	checkExamples(t, "Fixed", number.Fixed, []example{
		{2.5, 0, "3"}, {-2.5, 0, "-3"}, {0.5, 0, "1"}, {1.005, 2, "1.00"}, {-0.0000001, 2, "-0.00"}, {minus0, 2, "0.00"}, {1e21, 2, "1e+21"},
		{0, 0, "0"}, {minus0, 0, "0"}, {-0.4, 0, "-0"}, {1.25, 1, "1.3"}, {-1.25, 1, "-1.3"}, {999.995, 1, "1000.0"}, {0.05, 1, "0.1"}, {9.5, 0, "10"},
		{999999999999999868928, 1, "999999999999999868928.0"}, {-1e21, 100, "-1e+21"}, {nan, 0, "NaN"}, {inf, 5, "Infinity"}, {-inf, 100, "-Infinity"},
	})
	checkWriter(t, "Fixed", number.Fixed, slowFixed, 0)
	for _, digits := range append(wrongCounts(), -1) {
		for _, x := range few() { // also of those that are not finite: the count is asked first
			if s, e := number.Fixed(x, digits); s != "" || e != api.ErrRange {
				t.Errorf("Fixed(%v, %d): %q, %d", x, digits, s, e)
			}
		}
	}
}

func TestExponential(t *testing.T) { // 2.5
	checkExamples(t, "Exponential", number.Exponential, []example{
		{123456, 2, "1.23e+5"}, {0, 2, "0.00e+0"}, {0.00015, -1, "1.5e-4"}, {0, -1, "0e+0"}, {minus0, -1, "0e+0"}, {minus0, 1, "0.0e+0"}, {0, 0, "0e+0"},
		{99.5, 1, "1.0e+2"}, {9.5, 0, "1e+1"}, {2.5, 0, "3e+0"}, {-2.5, 0, "-3e+0"}, {-0.95, 0, "-9e-1"}, {0.9375, 0, "9e-1"}, {1, 3, "1.000e+0"}, {-1e21, -1, "-1e+21"},
		{nan, -1, "NaN"}, {inf, 3, "Infinity"}, {-inf, 3, "-Infinity"}, {least, 2, "4.94e-324"}, {1e23, 0, "1e+23"}, {1e23, 20, "9.99999999999999916114e+22"},
	})
	checkWriter(t, "Exponential", number.Exponential, slowExponential, -1)
	checkCounts(t, "Exponential", number.Exponential, wrongCounts())
}

func TestPrecision(t *testing.T) { // 2.6
	checkExamples(t, "Precision", number.Precision, []example{
		{123.456, 4, "123.5"}, {0.000001, 2, "0.0000010"}, {1234.5, 2, "1.2e+3"}, {1e21, 3, "1.00e+21"}, {0, 3, "0.00"}, {minus0, 1, "0"}, {0, 1, "0"},
		{1e-7, 1, "1e-7"}, {-1e-7, 2, "-1.0e-7"}, {9.4e-7, 1, "9e-7"}, {9.6e-7, 1, "0.000001"}, {9.96e-7, 2, "0.0000010"}, {99.99, 3, "100"}, {99.99, 2, "1.0e+2"}, {-2.5, 1, "-3"}, {5, 1, "5"}, {15, 1, "2e+1"}, {12, 2, "12"}, {-0.5, 3, "-0.500"},
		{nan, 1, "NaN"}, {inf, 100, "Infinity"}, {-inf, 1, "-Infinity"},
	})
	checkWriter(t, "Precision", number.Precision, slowPrecision, 1)
	checkCounts(t, "Precision", number.Precision, append(wrongCounts(), -1, 0))
}

// checkCounts: counts out of range are refused of what is finite; of what is not, they are not asked.
func checkCounts(t *testing.T, name string, call writer, counts []int) {
	t.Helper()
	for _, digits := range counts {
		for _, x := range few() {
			want, wantError := "", api.ErrRange
			if !isFinite(x) {
				want, wantError = slowText(x), api.OK
			}
			if s, e := call(x, digits); s != want || e != wantError {
				t.Errorf("%s(%v, %d): %q, %d", name, x, digits, s, e)
			}
		}
	}
}

func TestThereAndBack(t *testing.T) { // 2.11
	for _, x := range numbers() {
		want := x
		if x == 0 {
			want = 0
		}
		if y := number.Parse(number.Text(x)); !same(y, want) {
			t.Errorf("Parse(%q): %v, of %v", number.Text(x), y, x)
		}
		if s, e := number.Exponential(x, -1); e != api.OK || !same(number.Parse(s), want) {
			t.Errorf("Exponential: %q, %d, of %v", s, e, x)
		}
		if s, e := number.Precision(x, 17); e != api.OK || !same(number.Parse(s), want) {
			t.Errorf("Precision: %q, %d, of %v", s, e, x)
		}
		checkNoShorter(t, x)
	}
}

// checkNoShorter: of all texts with one digit less the two that lie around the number are no longer it (so none is: those with fewer still are among them, with 0 behind).
func checkNoShorter(t *testing.T, x float64) {
	digits, _ := number.Digits(x)
	k := len(digits) - 1
	if k < 1 {
		return
	}
	all, n := expansion(x)
	floor, ceiling := all[:k], increment(all[:k])
	for _, s := range []string{"0." + floor + "e" + strconv.Itoa(n), "0." + ceiling + "e" + strconv.Itoa(n+len(ceiling)-k)} {
		if number.Parse(s) == math.Abs(x) {
			t.Errorf("%s is read as %v, whose digits are %s", s, x, digits)
		}
	}
}

func TestSafeWholes(t *testing.T) { // 2.12
	for _, x := range append(numbers(), maxSafe, -maxSafe, maxSafe-1, 1-maxSafe) {
		if math.Trunc(x) != x || math.Abs(x) > maxSafe {
			continue
		}
		want := strconv.FormatInt(int64(x), 10)
		if s := number.Text(x); s != want {
			t.Errorf("Text(%v): %q", x, s)
		}
		if s, e := number.Radix(x, 10); s != want || e != api.OK {
			t.Errorf("Radix(%v, 10): %q, %d", x, s, e)
		}
	}
}
