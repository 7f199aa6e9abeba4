// Package units is layer 1: strings of UTF-16 code units, kept as WTF-8. See shared/doc/01-units.md.
package units

import (
	"iter"
	"slices"
	"strings"
	"unicode/utf8"

	"cameo/api"
)

// Valid tells whether bytes are a string.
func Valid(s string) bool {
	behindHigh := false
	for s != "" {
		c, size := decode(s)
		if size == 0 || behindHigh && isLow(c) {
			return false
		}
		behindHigh = isHigh(c)
		s = s[size:]
	}
	return true
}

// FromText is the string of a text of Go.
func FromText(s string) string {
	var b strings.Builder
	b.Grow(len(s))
	for _, c := range s {
		b.WriteRune(c)
	}
	return b.String()
}

// Text is the text of Go of a string.
func Text(s string) (string, api.Errno) {
	if !Valid(s) {
		return "", api.ErrText
	}
	var b strings.Builder
	b.Grow(len(s))
	for _, c := range walk(s) {
		if isSurrogate(c) {
			c = utf8.RuneError
		}
		b.WriteRune(c)
	}
	return b.String(), api.OK
}

// Of is the string of some code units.
func Of(l []uint16) string {
	b := make([]byte, 0, len(l))
	for i := 0; i < len(l); i++ {
		c := rune(l[i])
		if isHigh(c) && i+1 < len(l) && isLow(rune(l[i+1])) {
			i++
			c = join(c, rune(l[i]))
		}
		b = encode(b, c)
	}
	return string(b)
}

// Units is a string's code units.
func Units(s string) ([]uint16, api.Errno) {
	if !Valid(s) {
		return nil, api.ErrText
	}
	return unitsOf(s), api.OK
}

// Len is how many code units a string has.
func Len(s string) (int, api.Errno) {
	if !Valid(s) {
		return 0, api.ErrText
	}
	n := 0
	for _, c := range walk(s) {
		n += width(c)
	}
	return n, api.OK
}

// At is a code unit of a string.
func At(s string, i int) (uint16, api.Errno) {
	if !Valid(s) {
		return 0, api.ErrText
	}
	for at, c := range walk(s) {
		switch {
		case i == at:
			return first(c), api.OK
		case i == at+1 && width(c) == 2:
			return second(c), api.OK
		}
	}
	return 0, api.ErrRange
}

// Slice is a piece of a string.
func Slice(s string, from, to int) (string, api.Errno) {
	l, e := Units(s)
	if e != api.OK {
		return "", e
	}
	if from < 0 || from > to || to > len(l) {
		return "", api.ErrRange
	}
	return Of(l[from:to]), api.OK
}

// Concat is two strings, one behind the other.
func Concat(a, b string) (string, api.Errno) {
	if !Valid(a) || !Valid(b) {
		return "", api.ErrText
	}
	head, seam, tail := meet(a, b)
	if len(head)+len(seam)+len(tail) > api.MaxStr {
		return "", api.ErrLong
	}
	// The operator + would hand back its only part that is not empty: an answer is new memory.
	return strings.Join([]string{head, seam, tail}, ""), api.OK
}

// Compare is the order of two strings, by their code units.
func Compare(a, b string) (int, api.Errno) {
	if !Valid(a) || !Valid(b) {
		return 0, api.ErrText
	}
	return slices.Compare(unitsOf(a), unitsOf(b)), api.OK
}

// Index is the first place of a string in another one, from a place on.
func Index(s, t string, from int) (int, api.Errno) {
	if !Valid(s) || !Valid(t) {
		return 0, api.ErrText
	}
	l := unitsOf(s)
	from = max(from, 0)
	if from > len(l) {
		return -1, api.OK
	}
	n := find(l[from:], unitsOf(t))
	if n < 0 {
		return -1, api.OK
	}
	return from + n, api.OK
}

// Well tells whether a string has no surrogate alone.
func Well(s string) (bool, api.Errno) {
	if !Valid(s) {
		return false, api.ErrText
	}
	// A surrogate alone is all that a string may have beyond UTF-8.
	return utf8.ValidString(s), api.OK
}

// Points goes through a string's code points, each with its place.
func Points(s string) iter.Seq2[int, rune] {
	if !Valid(s) {
		return func(func(int, rune) bool) {}
	}
	return walk(s)
}
