package number

import (
	"math"
	"math/big"
	"strings"
)

const (
	// enoughDigits is more than the half between any two floats has: of the digits behind so many it matters only whether one is no 0.
	enoughDigits = 800
	// farDecade is beyond all floats, on both sides.
	farDecade = 400
	// farExponent is beyond what any number of digits ahead of it can make up for.
	farExponent = 1 << 40
	// farBits is beyond the bits of all whole floats.
	farBits = 1100
)

// Parse is the number of a text.
func Parse(s string) float64 {
	s = strings.TrimFunc(s, white)
	if s == "" {
		return 0
	}
	if bits := bitsOfDigit(s); bits > 0 {
		return parseBits(s[2:], bits)
	}
	size, negative := cutSign(s)
	x := parseSize(size)
	if negative {
		return -x
	}
	return x
}

// white tells whether a character is white space.
func white(c rune) bool {
	switch {
	case c >= 0x09 && c <= 0x0D, c >= 0x2000 && c <= 0x200A:
		return true
	}
	switch c {
	case 0x20, 0xA0, 0x1680, 0x2028, 0x2029, 0x202F, 0x205F, 0x3000, 0xFEFF:
		return true
	}
	return false
}

// cutSign is a text without a sign ahead of it, and whether that is -.
func cutSign(s string) (string, bool) {
	if rest, ok := strings.CutPrefix(s, "-"); ok {
		return rest, true
	}
	return strings.TrimPrefix(s, "+"), false
}

// bitsOfDigit is how many bits a digit of a text has that begins as one to the base 16, 8 or 2, and 0 of all others.
func bitsOfDigit(s string) int {
	if len(s) < 2 || s[0] != '0' {
		return 0
	}
	switch s[1] {
	case 'x', 'X':
		return 4
	case 'o', 'O':
		return 3
	case 'b', 'B':
		return 1
	}
	return 0
}

// parseBits is the number of digits of so many bits each.
func parseBits(s string, bits int) float64 {
	digits := strings.TrimLeft(s, "0")
	if !allBelow(digits, 1<<bits) || s == "" {
		return math.NaN()
	}
	if digits == "" {
		return 0
	}
	if len(digits) > farBits {
		return math.Inf(1)
	}
	n, _ := new(big.Int).SetString(digits, 1<<bits)
	return fraction{n, big.NewInt(1)}.float()
}

// allBelow tells whether all bytes of a text are digits to a base.
func allBelow(s string, base int) bool {
	for i := range len(s) {
		if digitOf(s[i]) >= base {
			return false
		}
	}
	return true
}

// digitOf is what a digit to the base 16 stands for; 16, if it is none.
func digitOf(c byte) int {
	switch {
	case c >= '0' && c <= '9':
		return int(c - '0')
	case c >= 'a' && c <= 'f':
		return int(c-'a') + 10
	case c >= 'A' && c <= 'F':
		return int(c-'A') + 10
	}
	return 16
}

// parseSize is the number of a text without a sign.
func parseSize(s string) float64 {
	if s == "Infinity" {
		return math.Inf(1)
	}
	whole, s := cutDigits(s)
	fraction := ""
	if rest, ok := strings.CutPrefix(s, "."); ok {
		fraction, s = cutDigits(rest)
	}
	e, ok := parseExponent(s)
	if !ok || whole == "" && fraction == "" {
		return math.NaN()
	}
	return decimal(whole+fraction, int64(len(whole))+e)
}

// cutDigits is the digits that a text begins with, and what is behind them.
func cutDigits(s string) (digits, rest string) {
	i := 0
	for i < len(s) && digitOf(s[i]) < 10 {
		i++
	}
	return s[:i], s[i:]
}

// parseExponent is the exponent that a text is, and whether it is one; it may be none at all.
func parseExponent(s string) (int64, bool) {
	if s == "" {
		return 0, true
	}
	digits, negative := cutSign(s[1:])
	if s[0] != 'e' && s[0] != 'E' || digits == "" || !allBelow(digits, 10) {
		return 0, false
	}
	var n int64
	for i := range len(digits) {
		n = min(10*n+int64(digitOf(digits[i])), farExponent)
	}
	if negative {
		return -n, true
	}
	return n, true
}

// decimal is 0.d1d2.. times 10 to the n, by half to even.
func decimal(digits string, n int64) float64 {
	significant := strings.TrimLeft(digits, "0")
	n -= int64(len(digits) - len(significant))
	switch {
	case significant == "" || n < -farDecade:
		return 0
	case n > farDecade:
		return math.Inf(1)
	}
	if len(significant) > enoughDigits {
		significant = shortened(significant)
	}
	whole, _ := new(big.Int).SetString(significant, 10)
	return fraction{whole, big.NewInt(1)}.scaled(int(n) - len(significant)).float()
}

// shortened is so many of the digits that the number lies as it did among the halves between floats.
func shortened(digits string) string {
	if strings.Trim(digits[enoughDigits:], "0") == "" {
		return digits[:enoughDigits]
	}
	return digits[:enoughDigits] + "1"
}
