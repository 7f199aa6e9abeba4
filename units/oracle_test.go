package units_test

// What the document's words say, written down a second time, slowly and by other means than the package has.

import (
	"math/rand"
	"strings"
	"testing"
)

// highs, lows and others are units at the edges of their kinds.
var (
	highs  = []uint16{0xD800, 0xD83D, 0xDBFF}
	lows   = []uint16{0xDC00, 0xDE00, 0xDFFF}
	others = []uint16{0, 'a', 0x7F, 0x80, 0x7FF, 0x800, 0xD7FF, 0xE000, 0xFFFD, 0xFFFF}
)

func edgeUnits() []uint16 {
	var l []uint16
	l = append(l, highs...)
	l = append(l, lows...)
	return append(l, others...)
}

// edgeRows are all rows of up to n of those units.
func edgeRows(n int) [][]uint16 {
	rows := [][]uint16{nil}
	last := rows
	for range n {
		var next [][]uint16
		for _, row := range last {
			for _, u := range edgeUnits() {
				next = append(next, append(append([]uint16{}, row...), u))
			}
		}
		rows = append(rows, next...)
		last = next
	}
	return rows
}

func high(u uint16) bool { return u >= 0xD800 && u <= 0xDBFF }
func low(u uint16) bool  { return u >= 0xDC00 && u <= 0xDFFF }

type point struct {
	at   int
	code rune
}

// pointsOf are the code points of a row, by the words of the chapter.
func pointsOf(l []uint16) []point {
	var out []point
	for i := 0; i < len(l); {
		if i+1 < len(l) && high(l[i]) && low(l[i+1]) {
			out = append(out, point{i, 0x10000 + 0x400*(rune(l[i])-0xD800) + (rune(l[i+1]) - 0xDC00)})
			i += 2
			continue
		}
		out = append(out, point{i, rune(l[i])})
		i++
	}
	return out
}

// spell is a code point as UTF-8 would write it.
func spell(c rune) string {
	n := int(c)
	tail := func(shift int) byte { return byte(128 + n/(1<<shift)%64) }
	switch {
	case n < 0x80:
		return string([]byte{byte(n)})
	case n < 0x800:
		return string([]byte{byte(192 + n/64), tail(0)})
	case n < 0x10000:
		return string([]byte{byte(224 + n/4096), tail(6), tail(0)})
	}
	return string([]byte{byte(240 + n/262144), tail(12), tail(6), tail(0)})
}

// stringOf is the string of a row.
func stringOf(l []uint16) string {
	var b strings.Builder
	for _, p := range pointsOf(l) {
		b.WriteString(spell(p.code))
	}
	return b.String()
}

// randomRow is a row in which surrogates are frequent, alone and in pairs.
func randomRow(r *rand.Rand, most int) []uint16 {
	l := make([]uint16, r.Intn(most+1))
	for i := range l {
		switch r.Intn(4) {
		case 0:
			l[i] = 0xD800 + uint16(r.Intn(0x400))
		case 1:
			l[i] = 0xDC00 + uint16(r.Intn(0x400))
		case 2:
			l[i] = edgeUnits()[r.Intn(len(edgeUnits()))]
		default:
			l[i] = uint16(r.Intn(0x10000))
		}
	}
	return l
}

// manyRows calls f with the rows of the edges, and with random ones that are always the same.
func manyRows(f func(l []uint16)) {
	for _, l := range edgeRows(3) {
		f(l)
	}
	r := rand.New(rand.NewSource(1))
	for range 2000 {
		f(randomRow(r, 12))
	}
}

// noStrings are bytes that are no string, each for a reason of its own.
func noStrings() map[string]string {
	return map[string]string{
		"a byte that begins nothing":            "\xFF",
		"a byte that begins nothing, among a's": "a\xFEa",
		"a tail alone":                          "\x80",
		"a tail behind a point":                 "\xC2\x80\x80",
		"two bytes for 00":                      "\xC0\x80",
		"two bytes for 7F":                      "\xC1\xBF",
		"three bytes for 7FF":                   "\xE0\x9F\xBF",
		"four bytes for FFFF":                   "\xF0\x8F\xBF\xBF",
		"four bytes for D800":                   "\xF0\x8D\xA0\x80",
		"110000":                                "\xF4\x90\x80\x80",
		"five bytes":                            "\xF8\x88\x80\x80\x80",
		"one byte of two":                       "\xC2",
		"two bytes of three":                    "a\xE2\x82",
		"three bytes of four":                   "\xF0\x9F\x98",
		"two bytes of a surrogate":              "\xED\xA0",
		"one byte of a surrogate":               "\xED",
		"a surrogate without its tail":          "\xED\xA0a",
		"a pair as two":                         "\xED\xA0\xBD\xED\xB8\x80",
		"a pair as two, the least":              "\xED\xA0\x80\xED\xB0\x80",
		"a pair as two, the greatest":           "\xED\xAF\xBF\xED\xBF\xBF",
		"a pair as two, behind a high one":      "\xED\xA0\xBD\xED\xA0\xBD\xED\xB8\x80",
		"a pair as two, at the end":             "ab\xED\xB8\x80\xED\xA0\xBD\xED\xB8\x80",
		"what is wrong only at the end":         strings.Repeat("a", 5000) + "\xFF",
	}
}

func sameUnits(a, b []uint16) bool {
	if len(a) != len(b) {
		return false
	}
	for i := range a {
		if a[i] != b[i] {
			return false
		}
	}
	return true
}

func TestOracle(t *testing.T) {
	if s := stringOf([]uint16{0x61, 0xD83D, 0xDE00}); s != "a\xF0\x9F\x98\x80" {
		t.Fatalf("the oracle is wrong: %x", s)
	}
	if s := stringOf([]uint16{0xDE00, 0xD83D}); s != "\xED\xB8\x80\xED\xA0\xBD" {
		t.Fatalf("the oracle is wrong: %x", s)
	}
}
