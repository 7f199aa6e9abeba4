package number_test

// What the document's words say, written down a second time, slowly and by other means than the package has: the library's texts of floats, which are exact when enough digits are asked for, and reckoning by hand in decimal digits.

import (
	"math"
	"math/big"
	"math/rand"
	"regexp"
	"strconv"
	"strings"
)

var (
	inf     = math.Inf(1)
	nan     = math.NaN()
	minus0  = math.Copysign(0, -1)
	least   = math.SmallestNonzeroFloat64
	most    = math.MaxFloat64
	maxSafe = float64(1<<53 - 1)
)

// nans are floats that are not a number, of several bits.
func nans() []float64 {
	var l []float64
	for _, bits := range []uint64{0x7FF0000000000001, 0x7FF8000000000000, 0x7FF8000000000001, 0xFFF0000000000001, 0xFFF8000000000000, 0xFFFFFFFFFFFFFFFF} {
		l = append(l, math.Float64frombits(bits))
	}
	return append(l, nan)
}

// around is a number, its neighbours, and all of them below nought.
func around(x float64) []float64 {
	below, above := math.Nextafter(x, -inf), math.Nextafter(x, inf)
	return []float64{below, x, above, -below, -x, -above}
}

// edges are numbers at all the edges that the document names.
func edges() []float64 {
	l := []float64{0, minus0, inf, -inf}
	l = append(l, nans()...)
	for _, x := range []float64{least, most, maxSafe, 0.1, 0.3, 1125899906842624.25, 1125899906842624.75, 1e21, 1e-6, 1e-7, 5e-7, 255, 254.5, 255.5, 1.005, 0.00015, 123456, 123.456, 1234.5, 999.995, 9.5, 99.5, 0.95, 1e23, 9.5e-7, 9.5e20, 9.5e21, 123456789012345680000, 0.000001, 5.5} {
		l = append(l, around(x)...)
	}
	for n := range 40 {
		l = append(l, float64(n)-20, float64(n)-19.5, float64(n)/8)
	}
	for e := -1074; e <= 1023; e++ {
		l = append(l, around(math.Ldexp(1, e))...)
	}
	for e := -323; e <= 308; e++ {
		x, _ := strconv.ParseFloat("1e"+strconv.Itoa(e), 64)
		l = append(l, around(x)...)
	}
	return l
}

// some are numbers of all sizes and kinds, by chance.
func some(n int) []float64 {
	r := rand.New(rand.NewSource(2))
	l := make([]float64, 0, n)
	for len(l) < n {
		switch r.Intn(6) {
		case 0, 1:
			l = append(l, math.Float64frombits(r.Uint64()))
		case 2:
			l = append(l, math.Ldexp(float64(r.Int63n(1<<53)), -r.Intn(60)))
		case 3:
			l = append(l, float64(r.Intn(200000)-100000)/[]float64{1, 2, 4, 8, 10, 100, 1000}[r.Intn(7)])
		case 4:
			l = append(l, math.Float64frombits(r.Uint64()>>(12+r.Intn(52))))
		case 5:
			l = append(l, math.Trunc(math.Exp(r.Float64()*80))*float64(1-2*r.Intn(2)))
		}
	}
	return l
}

func numbers() []float64 { return append(edges(), some(4000)...) }

// few are numbers enough for tests that go over pairs, or over all counts of digits.
func few() []float64 {
	l := append([]float64{0, minus0, inf, -inf}, nans()...)
	for _, x := range []float64{least, 1e-323, 1e-310, 2.2250738585072014e-308, 1e-100, 9.5e-8, 1e-7, 1e-6, 0.00015, 0.1, 0.5, 0.95, 1, 1.005, 1.5, 2.5, 3, 7, 9.5, 31, 32, 33, 99.5, 255.5, 65535, 1 << 31, 1<<32 - 1, 1 << 32, 1<<32 + 1, 1e15, maxSafe, 1 << 53, 1e20, 999999999999999868928, 1e21, 1e23, 1e100, 1e308, most} {
		l = append(l, x, -x)
	}
	return append(l, some(60)...)
}

func bitsOf(x float64) uint64 { return math.Float64bits(x) }

// same tells whether two floats are one, any that is not a number being any other.
func same(x, y float64) bool { return x != x && y != y || bitsOf(x) == bitsOf(y) }

func isFinite(x float64) bool { return x-x == 0 }

// expansion is all digits of the size of a finite number that is no nought, d1 no 0, with 0 behind their end, and the n for which it is 0.d1d2.. times 10 to the n.
func expansion(x float64) (string, int) {
	mantissa, exponent, _ := strings.Cut(strconv.FormatFloat(math.Abs(x), 'e', 900, 64), "e")
	e, _ := strconv.Atoi(exponent)
	return strings.Replace(mantissa, ".", "", 1), e + 1
}

// increment is a row of digits with one more in the last place; it is longer by one, if all are 9.
func increment(digits string) string {
	b := []byte(digits)
	for i := len(b) - 1; i >= 0; i-- {
		if b[i] != '9' {
			b[i]++
			return string(b)
		}
		b[i] = '0'
	}
	return "1" + string(b)
}

// readsAs is what 0.digits times 10 to the n becomes by half to even.
func readsAs(digits string, n int) float64 {
	x, _ := strconv.ParseFloat("0."+digits+"e"+strconv.Itoa(n), 64)
	return x
}

// slowDigits is Digits by the words of 2.1: of both neighbours with k digits those that become the number, for k from 1 on.
func slowDigits(x float64) (string, int) {
	if x == 0 || !isFinite(x) {
		return "", 0
	}
	all, n := expansion(x)
	for k := 1; ; k++ {
		floor, ceiling := all[:k], increment(all[:k])
		up := n + len(ceiling) - k
		low, high := readsAs(floor, n) == math.Abs(x), readsAs(ceiling, up) == math.Abs(x)
		if low && high {
			rest := strings.Compare(all[k:], "5"+strings.Repeat("0", len(all)-k-1))
			high = rest > 0 || rest == 0 && (floor[k-1]-'0')%2 == 1
		}
		switch {
		case high:
			return strings.TrimRight(ceiling, "0"), up
		case low:
			return floor, n
		}
	}
}

func signOf(x float64) string {
	if x < 0 {
		return "-"
	}
	return ""
}

// slowText is Text by the words of 2.2.
func slowText(x float64) string {
	switch {
	case x != x:
		return "NaN"
	case x == 0:
		return "0"
	case x < 0:
		return "-" + slowText(-x)
	case x > most:
		return "Infinity"
	}
	d, n := slowDigits(x)
	k := len(d)
	if k <= n && n <= 21 {
		return d + strings.Repeat("0", n-k)
	}
	if 0 < n && n <= 21 {
		return d[:n] + "." + d[n:]
	}
	if -6 < n && n <= 0 {
		return "0." + strings.Repeat("0", -n) + d
	}
	if k > 1 {
		d = d[:1] + "." + d[1:]
	}
	if n-1 < 0 {
		return d + "e-" + strconv.Itoa(1-n)
	}
	return d + "e+" + strconv.Itoa(n-1)
}

// slowFixed is Fixed by the words of 2.4, of digits that are in range.
func slowFixed(x float64, digits int) string {
	if !isFinite(x) || math.Abs(x) >= 1e21 {
		return slowText(x)
	}
	whole, fraction, _ := strings.Cut(strconv.FormatFloat(math.Abs(x), 'f', 1100, 64), ".")
	n := whole + fraction[:digits]
	if fraction[digits] >= '5' {
		n = increment(n)
	}
	if digits > 0 {
		n = n[:len(n)-digits] + "." + n[len(n)-digits:]
	}
	return signOf(x) + n
}

// slowRound is the N of k digits and the E of 2.5, of a finite number.
func slowRound(x float64, k int) (string, int) {
	if x == 0 {
		return strings.Repeat("0", k), 0
	}
	all, n := expansion(x)
	digits := all[:k]
	if all[k] >= '5' {
		digits = increment(digits)
	}
	return digits[:k], n + len(digits) - k - 1
}

func slowPower(digits string, e int) string {
	if len(digits) > 1 {
		digits = digits[:1] + "." + digits[1:]
	}
	if e < 0 {
		return digits + "e-" + strconv.Itoa(-e)
	}
	return digits + "e+" + strconv.Itoa(e)
}

// slowExponential is Exponential by the words of 2.5, of digits that are in range.
func slowExponential(x float64, digits int) string {
	switch {
	case !isFinite(x):
		return slowText(x)
	case digits >= 0:
		return signOf(x) + slowPower(slowRound(x, digits+1))
	case x == 0:
		return "0e+0"
	}
	d, n := slowDigits(x)
	return signOf(x) + slowPower(d, n-1)
}

// slowPrecision is Precision by the words of 2.6, of digits that are in range.
func slowPrecision(x float64, digits int) string {
	if !isFinite(x) {
		return slowText(x)
	}
	n, e := slowRound(x, digits)
	switch {
	case e < -6 || e >= digits:
		return signOf(x) + slowPower(n, e)
	case e < 0:
		return signOf(x) + "0." + strings.Repeat("0", -e-1) + n
	case e+1 == digits:
		return signOf(x) + n
	}
	return signOf(x) + n[:e+1] + "." + n[e+1:]
}

var (
	decimalForm = regexp.MustCompile(`^[+-]?([0-9]+(\.[0-9]*)?|\.[0-9]+)([eE][+-]?[0-9]+)?$`)
	basedForm   = regexp.MustCompile(`^(0[xX][0-9a-fA-F]+|0[oO][0-7]+|0[bB][01]+)$`)
)

// slowParse is Parse by the words of 2.7, of a text without white space.
func slowParse(s string) float64 {
	switch s {
	case "":
		return 0
	case "Infinity", "+Infinity":
		return inf
	case "-Infinity":
		return -inf
	}
	if basedForm.MatchString(s) {
		n, _ := new(big.Int).SetString(s, 0)
		x, _ := new(big.Rat).SetInt(n).Float64()
		return x
	}
	if decimalForm.MatchString(s) {
		x, _ := strconv.ParseFloat(s, 64)
		return x
	}
	return nan
}

// slowModulo is the whole part of a number modulo 2 to the bits, from 0 on.
func slowModulo(x float64, bits uint) uint64 {
	if !isFinite(x) {
		return 0
	}
	n, _ := new(big.Float).SetFloat64(x).Int(nil)
	return n.Mod(n, new(big.Int).Lsh(big.NewInt(1), bits)).Uint64()
}

// slowRem is Rem by the words of 2.10.
func slowRem(x, y float64) float64 {
	switch {
	case x != x || y != y || !isFinite(x) || y == 0:
		return nan
	case !isFinite(y) || x == 0:
		return x
	}
	a, b := new(big.Rat).SetFloat64(x), new(big.Rat).SetFloat64(y)
	ratio := new(big.Rat).Quo(a, b)
	q := new(big.Int).Quo(ratio.Num(), ratio.Denom())
	rest, _ := a.Sub(a, b.Mul(b, new(big.Rat).SetInt(q))).Float64()
	return math.Copysign(rest, x)
}
