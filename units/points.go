package units

import (
	"iter"
	"unicode/utf8"
)

// The bounds of the surrogates stand as numbers, because Go has no rune literal for them.
const (
	firstHigh rune = 0xD800
	firstLow  rune = 0xDC00
	lastLow   rune = 0xDFFF
	firstPair rune = '\U00010000'
)

// surrogateSize is how many bytes a surrogate has that stands alone.
const surrogateSize = 3

func isHigh(c rune) bool { return firstHigh <= c && c < firstLow }

func isLow(c rune) bool { return firstLow <= c && c <= lastLow }

func isSurrogate(c rune) bool { return firstHigh <= c && c <= lastLow }

// join is the code point of a pair.
func join(high, low rune) rune {
	return firstPair + (high-firstHigh)<<10 + (low - firstLow)
}

// width is how many units a code point has.
func width(c rune) int {
	if c >= firstPair {
		return 2
	}
	return 1
}

// first is the first unit of a code point.
func first(c rune) uint16 {
	if c >= firstPair {
		return uint16(firstHigh + (c-firstPair)>>10)
	}
	return uint16(c)
}

// second is the low surrogate of a code point that has two units.
func second(c rune) uint16 {
	return uint16(firstLow + (c-firstPair)&0x3FF)
}

// decode is the code point at the front of some bytes, and how many bytes it has: 0, if none stands there.
func decode(s string) (rune, int) {
	c, size := utf8.DecodeRuneInString(s)
	if c == utf8.RuneError && size <= 1 {
		return decodeSurrogate(s)
	}
	return c, size
}

// decodeSurrogate reads the one kind of code points that Go takes for none.
func decodeSurrogate(s string) (rune, int) {
	if len(s) < surrogateSize || s[0] != 0xED || s[1]&0xE0 != 0xA0 || s[2]&0xC0 != 0x80 {
		return 0, 0
	}
	return firstHigh + rune(s[1]&0x1F)<<6 + rune(s[2]&0x3F), surrogateSize
}

// encode puts a code point behind some bytes; Go alone would not write a surrogate.
func encode(b []byte, c rune) []byte {
	if isSurrogate(c) {
		return append(b, 0xED, 0x80|byte(c>>6)&0x3F, 0x80|byte(c)&0x3F)
	}
	return utf8.AppendRune(b, c)
}

// walk goes through the code points of what is known to be a string.
func walk(s string) iter.Seq2[int, rune] {
	return func(yield func(int, rune) bool) {
		at := 0
		for rest := s; rest != ""; {
			c, size := decode(rest)
			if !yield(at, c) {
				return
			}
			at += width(c)
			rest = rest[size:]
		}
	}
}

// unitsOf is the row of units of what is known to be a string.
func unitsOf(s string) []uint16 {
	l := make([]uint16, 0, len(s))
	for _, c := range walk(s) {
		l = append(l, first(c))
		if width(c) == 2 {
			l = append(l, second(c))
		}
	}
	return l
}

// meet is what stands ahead of the seam of two strings, the seam, and what stands behind it: the seam is
// the pair that a high surrogate at the end of a and a low one at the front of b become, if they are there.
func meet(a, b string) (head, seam, tail string) {
	if len(a) < surrogateSize || len(b) < surrogateSize {
		return a, "", b
	}
	cut := len(a) - surrogateSize
	high, _ := decodeSurrogate(a[cut:])
	low, _ := decodeSurrogate(b)
	if !isHigh(high) || !isLow(low) {
		return a, "", b
	}
	return a[:cut], string(join(high, low)), b[surrogateSize:]
}
