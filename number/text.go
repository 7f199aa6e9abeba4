package number

import (
	"math"
	"strconv"
	"strings"

	"cameo/api"
)

// Text is a number as text.
func Text(x float64) string {
	switch {
	case math.IsNaN(x):
		return "NaN"
	case x == 0:
		return "0"
	case math.IsInf(x, 0):
		return sign(x) + "Infinity"
	}
	digits, n := Digits(x)
	k := len(digits)
	switch {
	case k <= n && n <= 21:
		return sign(x) + digits + zeros(n-k)
	case 0 < n && n <= 21:
		return sign(x) + pointed(digits, n)
	case -6 < n && n <= 0:
		return sign(x) + "0." + zeros(-n) + digits
	}
	return sign(x) + powered(digits, n-1)
}

// Radix is a whole number's text to a base.
func Radix(x float64, base int) (string, api.Errno) {
	if base < 2 || base > 36 || !safe(x) {
		return "", api.ErrRange
	}
	return strconv.FormatInt(int64(x), base), api.OK
}

// Fixed is a number with so many digits behind the point.
func Fixed(x float64, digits int) (string, api.Errno) {
	if digits < 0 || digits > api.MaxDigits {
		return "", api.ErrRange
	}
	if !finite(x) || math.Abs(x) >= 1e21 {
		return Text(x), api.OK
	}
	s := exact(split(x)).scaled(digits).nearest().String()
	s = zeros(digits+1-len(s)) + s
	return sign(x) + pointed(s, len(s)-digits), api.OK
}

// Exponential is a number with an exponent, and so many digits behind the point; -1: as many as it takes.
func Exponential(x float64, digits int) (string, api.Errno) {
	switch {
	case !finite(x):
		return Text(x), api.OK
	case digits < -1 || digits > api.MaxDigits:
		return "", api.ErrRange
	case digits >= 0:
		return sign(x) + powered(rounded(x, digits+1)), api.OK
	case x == 0:
		return powered("0", 0), api.OK
	}
	shortest, n := Digits(x)
	return sign(x) + powered(shortest, n-1), api.OK
}

// Precision is a number with so many digits in all.
func Precision(x float64, digits int) (string, api.Errno) {
	if !finite(x) {
		return Text(x), api.OK
	}
	if digits < 1 || digits > api.MaxDigits {
		return "", api.ErrRange
	}
	s, e := rounded(x, digits)
	switch {
	case e < -6 || e >= digits:
		s = powered(s, e)
	case e >= 0:
		s = pointed(s, e+1)
	default:
		s = "0." + zeros(-e-1) + s
	}
	return sign(x) + s, api.OK
}

// sign is what stands ahead of a number's size.
func sign(x float64) string {
	if x < 0 {
		return "-"
	}
	return ""
}

// zeros is n times 0, none if n is below nought.
func zeros(n int) string { return strings.Repeat("0", max(n, 0)) }

// pointed is digits with a point behind the first n, if there are others.
func pointed(digits string, n int) string {
	if n == len(digits) {
		return digits
	}
	return digits[:n] + "." + digits[n:]
}

// powered is digits with a point behind the first one, and an exponent.
func powered(digits string, e int) string {
	plus := ""
	if e >= 0 {
		plus = "+"
	}
	return pointed(digits, 1) + "e" + plus + strconv.Itoa(e)
}
