package units_test

import (
	"math"
	"math/rand"
	"slices"
	"strings"
	"testing"
	"unicode/utf8"

	"cameo/api"
	"cameo/units"
)

const (
	smile  = "a\xF0\x9F\x98\x80" // the units 61, D83D, DE00
	loneHi = "\xED\xA0\xBD"      // the unit D83D
	loneLo = "\xED\xB8\x80"      // the unit DE00
)

// 1.1

func TestValidOfRows(t *testing.T) {
	manyRows(func(l []uint16) {
		if s := stringOf(l); !units.Valid(s) {
			t.Errorf("Valid(%x): false", s)
		}
	})
}

func TestValidOfNoStrings(t *testing.T) {
	for why, s := range noStrings() {
		if units.Valid(s) {
			t.Errorf("%s: Valid(%x): true", why, s)
		}
	}
}

// Bytes are a string just if they are the string of some row: of all rows of up to five of some bytes, and of pairs as two.
func TestValidOfAllShortBytes(t *testing.T) {
	alphabet := []byte{0x61, 0x80, 0x90, 0xA0, 0xB0, 0xBF, 0xC0, 0xC2, 0xE0, 0xED, 0xF0, 0xF4}
	points := map[string]rune{}
	for c := rune(0); c <= 0x10FFFF; c++ {
		points[spell(c)] = c
	}
	var isString func(s string, behindHigh bool) bool
	isString = func(s string, behindHigh bool) bool {
		for n := 1; n <= min(4, len(s)); n++ {
			c, ok := points[s[:n]]
			if !ok {
				continue
			}
			hi, lo := c >= 0xD800 && c <= 0xDBFF, c >= 0xDC00 && c <= 0xDFFF
			return !(behindHigh && lo) && isString(s[n:], hi)
		}
		return s == ""
	}
	var grow func(s string, left int)
	grow = func(s string, left int) {
		if got, want := units.Valid(s), isString(s, false); got != want {
			t.Errorf("Valid(%x): %v, want %v", s, got, want)
		}
		if left == 0 {
			return
		}
		for _, b := range alphabet {
			grow(s+string([]byte{b}), left-1)
		}
	}
	grow("", 5)
	for _, b := range alphabet { // pairs as two: six bytes
		grow("\xED\xA0\x80\xED"+string([]byte{b}), 1)
		grow("\xED\xBF\xBF\xED"+string([]byte{b}), 1)
	}
}

func TestValidHasNoLimit(t *testing.T) {
	long := strings.Repeat(smile, api.MaxStr)
	if !units.Valid(long) {
		t.Error("a long string: false")
	}
	if units.Valid(long + "\xFF") {
		t.Error("a long string and FF: true")
	}
}

// Every call that answers an Errno, with s in one of its places; whether all its other results are zero.
func callsWith(s string) map[string]func() (api.Errno, bool) {
	return map[string]func() (api.Errno, bool){
		"Text":      func() (api.Errno, bool) { x, e := units.Text(s); return e, x == "" },
		"Units":     func() (api.Errno, bool) { x, e := units.Units(s); return e, len(x) == 0 },
		"Len":       func() (api.Errno, bool) { x, e := units.Len(s); return e, x == 0 },
		"At":        func() (api.Errno, bool) { x, e := units.At(s, 0); return e, x == 0 },
		"At far":    func() (api.Errno, bool) { x, e := units.At(s, -1); return e, x == 0 },
		"Slice":     func() (api.Errno, bool) { x, e := units.Slice(s, 0, 0); return e, x == "" },
		"Slice far": func() (api.Errno, bool) { x, e := units.Slice(s, -1, math.MaxInt); return e, x == "" },
		"Concat a":  func() (api.Errno, bool) { x, e := units.Concat(s, "b"); return e, x == "" },
		"Concat b":  func() (api.Errno, bool) { x, e := units.Concat("a", s); return e, x == "" },
		"Concat long": func() (api.Errno, bool) {
			x, e := units.Concat(strings.Repeat("a", api.MaxStr), s)
			return e, x == ""
		},
		"Compare a": func() (api.Errno, bool) { x, e := units.Compare(s, "zz"); return e, x == 0 },
		"Compare b": func() (api.Errno, bool) { x, e := units.Compare("zz", s); return e, x == 0 },
		"Index s":   func() (api.Errno, bool) { x, e := units.Index(s, "b", 0); return e, x == 0 },
		"Index t":   func() (api.Errno, bool) { x, e := units.Index("b", s, 0); return e, x == 0 },
		"Index far": func() (api.Errno, bool) { x, e := units.Index("b", s, 9); return e, x == 0 },
		"Well":      func() (api.Errno, bool) { x, e := units.Well(s); return e, !x },
	}
}

func TestErrText(t *testing.T) {
	for why, s := range noStrings() {
		for name, call := range callsWith(s) {
			if e, zero := call(); e != api.ErrText || !zero {
				t.Errorf("%s of %s: %d, the others zero: %v", name, why, e, zero)
			}
		}
	}
}

// Of any bytes and numbers: no call panics, and ErrText is answered just where Valid is false.
func TestAnyBytes(t *testing.T) {
	r := rand.New(rand.NewSource(5))
	pieces := []string{"a", "\xC3\xA9", smile, loneHi, loneLo, "\xED", "\xA0", "\xF0\x9F", "\x98", "\xFF"}
	numbers := []int{math.MinInt, -1, 0, 1, 2, 3, 7, math.MaxInt}
	bytes := func() string {
		var b strings.Builder
		for range r.Intn(5) {
			b.WriteString(pieces[r.Intn(len(pieces))])
		}
		return b.String()
	}
	for range 20000 {
		a, b := bytes(), bytes()
		n, m := numbers[r.Intn(len(numbers))], numbers[r.Intn(len(numbers))]
		_, text := units.Text(a)
		_, at := units.At(a, n)
		_, slice := units.Slice(a, n, m)
		_, concat := units.Concat(a, b)
		_, compare := units.Compare(a, b)
		_, index := units.Index(a, b, n)
		for i, e := range []api.Errno{text, at, slice} {
			if (e == api.ErrText) == units.Valid(a) {
				t.Errorf("call %d of %x: %d", i, a, e)
			}
		}
		for i, e := range []api.Errno{concat, compare, index} {
			if (e == api.ErrText) == (units.Valid(a) && units.Valid(b)) {
				t.Errorf("call %d of %x and %x: %d", i, a, b, e)
			}
		}
	}
}

// 1.2

func TestFromText(t *testing.T) {
	rows := []struct{ s, want string }{
		{"", ""},
		{"abc", "abc"},
		{smile, smile},
		{"a\xFFb", "a\xEF\xBF\xBDb"},
		{"\xEF\xBF\xBD", "\xEF\xBF\xBD"},
		{loneHi, "\xEF\xBF\xBD\xEF\xBF\xBD\xEF\xBF\xBD"},
		{"\xE2\x82", "\xEF\xBF\xBD\xEF\xBF\xBD"},
		{"\xF4\x90\x80\x80", strings.Repeat("\xEF\xBF\xBD", 4)},
		{"\xC0\x80\x00", "\xEF\xBF\xBD\xEF\xBF\xBD\x00"},
	}
	for _, c := range rows {
		if got := units.FromText(c.s); got != c.want {
			t.Errorf("FromText(%x): %x, want %x", c.s, got, c.want)
		}
	}
}

func TestFromTextOfAnyBytes(t *testing.T) {
	r := rand.New(rand.NewSource(2))
	for range 5000 {
		b := make([]byte, r.Intn(10))
		for i := range b {
			b[i] = []byte{'a', 0x80, 0xBD, 0xC2, 0xE2, 0xED, 0xA0, 0xF0, 0x9F, 0xFF}[r.Intn(10)]
		}
		s := string(b)
		got := units.FromText(s)
		if want := string([]rune(s)); got != want {
			t.Errorf("FromText(%x): %x, want %x", s, got, want)
		}
		if !utf8.ValidString(got) || !units.Valid(got) {
			t.Errorf("FromText(%x): %x is no string", s, got)
		}
		if utf8.ValidString(s) && got != s {
			t.Errorf("FromText(%x): %x, though it is UTF-8", s, got)
		}
	}
}

func TestText(t *testing.T) {
	rows := []struct{ s, want string }{
		{"", ""},
		{"abc", "abc"},
		{smile, smile},
		{"a" + loneHi, "a\xEF\xBF\xBD"},
		{loneLo + loneHi, "\xEF\xBF\xBD\xEF\xBF\xBD"},
		{"\xED\x9F\xBF\xEE\x80\x80", "\xED\x9F\xBF\xEE\x80\x80"}, // D7FF and E000, beside the surrogates
		{"\xED\xA0\x80x\xED\xBF\xBF", "\xEF\xBF\xBDx\xEF\xBF\xBD"},
		{"\xEF\xBF\xBD", "\xEF\xBF\xBD"},
	}
	for _, c := range rows {
		if got, e := units.Text(c.s); got != c.want || e != api.OK {
			t.Errorf("Text(%x): %x, %d, want %x", c.s, got, e, c.want)
		}
	}
}

func TestTextOfRows(t *testing.T) {
	manyRows(func(l []uint16) {
		var want strings.Builder
		for _, p := range pointsOf(l) {
			if p.code >= 0xD800 && p.code <= 0xDFFF {
				want.WriteString("\xEF\xBF\xBD")
				continue
			}
			want.WriteString(spell(p.code))
		}
		if got, e := units.Text(stringOf(l)); got != want.String() || e != api.OK {
			t.Errorf("Text of %x: %x, %d, want %x", l, got, e, want.String())
		}
	})
}

// 1.3

func TestOf(t *testing.T) {
	rows := []struct {
		l    []uint16
		want string
	}{
		{nil, ""},
		{[]uint16{}, ""},
		{[]uint16{0x61, 0xD83D, 0xDE00}, smile},
		{[]uint16{0xD83D}, loneHi},
		{[]uint16{0xDE00}, loneLo},
		{[]uint16{0xDE00, 0xD83D}, loneLo + loneHi},
		{[]uint16{0xD83D, 0xD83D, 0xDE00, 0xDE00}, loneHi + "\xF0\x9F\x98\x80" + loneLo},
		{[]uint16{0xD800, 0xDC00}, "\xF0\x90\x80\x80"},
		{[]uint16{0xDBFF, 0xDFFF}, "\xF4\x8F\xBF\xBF"},
		{[]uint16{0, 0x7F, 0x80, 0x7FF, 0x800, 0xFFFF}, "\x00\x7F\xC2\x80\xDF\xBF\xE0\xA0\x80\xEF\xBF\xBF"},
	}
	for _, c := range rows {
		if got := units.Of(c.l); got != c.want {
			t.Errorf("Of(%x): %x, want %x", c.l, got, c.want)
		}
	}
}

func TestEveryUnit(t *testing.T) {
	for n := range 0x10000 {
		l := []uint16{uint16(n)}
		s := units.Of(l)
		if want := spell(rune(n)); s != want {
			t.Errorf("Of(%x): %x, want %x", l, s, want)
		}
		if back, e := units.Units(s); !sameUnits(back, l) || e != api.OK {
			t.Errorf("Units(%x): %x, %d", s, back, e)
		}
	}
}

func TestEveryPair(t *testing.T) {
	for c := rune(0x10000); c <= 0x10FFFF; c++ {
		l := []uint16{uint16(0xD800 + (c-0x10000)/0x400), uint16(0xDC00 + (c-0x10000)%0x400)}
		s := units.Of(l)
		if want := spell(c); s != want {
			t.Fatalf("Of(%x): %x, want %x", l, s, want)
		}
		if back, e := units.Units(s); !sameUnits(back, l) || e != api.OK {
			t.Fatalf("Units(%x): %x, %d", s, back, e)
		}
	}
}

func TestUnitsAndLen(t *testing.T) {
	manyRows(func(l []uint16) {
		s := stringOf(l)
		if got := units.Of(l); got != s {
			t.Errorf("Of(%x): %x, want %x", l, got, s)
		}
		if got, e := units.Units(s); !sameUnits(got, l) || e != api.OK {
			t.Errorf("Units(%x): %x, %d, want %x", s, got, e, l)
		}
		if n, e := units.Len(s); n != len(l) || e != api.OK {
			t.Errorf("Len(%x): %d, %d, want %d", s, n, e, len(l))
		}
	})
}

func TestListsAreNewMemory(t *testing.T) {
	room := []uint16{0x61, 0xD83D, 0xDE00, 7}
	l := room[:3]
	s := units.Of(l)
	if !sameUnits(room, []uint16{0x61, 0xD83D, 0xDE00, 7}) {
		t.Errorf("Of has changed what it was given: %x", room)
	}
	l[0] = 0x62
	if s != smile {
		t.Errorf("Of has kept what it was given: %x", s)
	}
	a, _ := units.Units(smile)
	b, _ := units.Units(smile)
	_ = append(a, 1, 2, 3)
	for i := range a {
		a[i] = 0
	}
	if !sameUnits(b, []uint16{0x61, 0xD83D, 0xDE00}) {
		t.Errorf("two answers of Units share memory: %x", b)
	}
}

// 1.4

func TestAt(t *testing.T) {
	manyRows(func(l []uint16) {
		s := stringOf(l)
		for i, want := range l {
			if u, e := units.At(s, i); u != want || e != api.OK {
				t.Errorf("At(%x, %d): %x, %d, want %x", s, i, u, e, want)
			}
		}
		for _, i := range []int{-1, len(l), len(l) + 1, math.MinInt, math.MaxInt} {
			if u, e := units.At(s, i); u != 0 || e != api.ErrRange {
				t.Errorf("At(%x, %d): %x, %d", s, i, u, e)
			}
		}
	})
}

func TestSlice(t *testing.T) {
	rows := []struct {
		s        string
		from, to int
		want     string
	}{
		{smile, 0, 0, ""},
		{smile, 0, 1, "a"},
		{smile, 0, 2, "a" + loneHi},
		{smile, 0, 3, smile},
		{smile, 1, 2, loneHi},
		{smile, 1, 3, "\xF0\x9F\x98\x80"},
		{smile, 2, 2, ""},
		{smile, 2, 3, loneLo},
		{smile, 3, 3, ""},
		{"", 0, 0, ""},
		{loneLo + smile + loneHi, 0, 3, loneLo + "a" + loneHi},
	}
	for _, c := range rows {
		if got, e := units.Slice(c.s, c.from, c.to); got != c.want || e != api.OK {
			t.Errorf("Slice(%x, %d, %d): %x, %d, want %x", c.s, c.from, c.to, got, e, c.want)
		}
	}
}

func TestSliceOfRows(t *testing.T) {
	manyRows(func(l []uint16) {
		s := stringOf(l)
		for from := -1; from <= len(l)+1; from++ {
			for to := -1; to <= len(l)+1; to++ {
				got, e := units.Slice(s, from, to)
				if from < 0 || from > to || to > len(l) {
					if got != "" || e != api.ErrRange {
						t.Errorf("Slice(%x, %d, %d): %x, %d", s, from, to, got, e)
					}
					continue
				}
				if want := stringOf(l[from:to]); got != want || e != api.OK {
					t.Errorf("Slice(%x, %d, %d): %x, %d, want %x", s, from, to, got, e, want)
				}
			}
		}
	})
}

func TestSliceFarOutOfRange(t *testing.T) {
	for _, c := range [][2]int{{math.MinInt, 0}, {0, math.MaxInt}, {math.MinInt, math.MaxInt}, {math.MaxInt, math.MaxInt}, {math.MinInt, math.MinInt}, {math.MaxInt, 0}} {
		if s, e := units.Slice(smile, c[0], c[1]); s != "" || e != api.ErrRange {
			t.Errorf("Slice(%d, %d): %x, %d", c[0], c[1], s, e)
		}
	}
}

// 1.5

func TestConcat(t *testing.T) {
	rows := []struct{ a, b, want string }{
		{"", "", ""},
		{"a", "", "a"},
		{"", "b", "b"},
		{"a", "b", "ab"},
		{"a" + loneHi, loneLo, smile},
		{"a" + loneHi, loneLo + loneLo, smile + loneLo},
		{loneHi + loneHi, loneLo + "x", loneHi + "\xF0\x9F\x98\x80x"},
		{loneHi, loneHi, loneHi + loneHi},
		{loneLo, loneLo, loneLo + loneLo},
		{loneLo, loneHi, loneLo + loneHi},
		{loneHi, "a", loneHi + "a"},
		{"a", loneLo, "a" + loneLo},
		{loneHi, "", loneHi},
		{"", loneLo, loneLo},
		{smile, loneLo, smile + loneLo},
		{loneHi, smile, loneHi + smile},
		{"\xED\xA0\x80", "\xED\xB0\x80", "\xF0\x90\x80\x80"},
		{"\xED\xAF\xBF", "\xED\xBF\xBF", "\xF4\x8F\xBF\xBF"},
	}
	for _, c := range rows {
		if got, e := units.Concat(c.a, c.b); got != c.want || e != api.OK {
			t.Errorf("Concat(%x, %x): %x, %d, want %x", c.a, c.b, got, e, c.want)
		}
	}
}

func TestConcatOfRows(t *testing.T) {
	manyRows(func(l []uint16) {
		for i := 0; i <= len(l); i++ {
			a, b := stringOf(l[:i]), stringOf(l[i:])
			if got, e := units.Concat(a, b); got != stringOf(l) || e != api.OK {
				t.Errorf("Concat(%x, %x): %x, %d, want %x", a, b, got, e, stringOf(l))
			}
		}
	})
}

func TestConcatLong(t *testing.T) {
	full := strings.Repeat("a", api.MaxStr)
	rows := []struct {
		name, a, b string
		want       api.Errno
	}{
		{"all in a", full, "", api.OK},
		{"all in b", "", full, api.OK},
		{"one byte more, in b", full, "a", api.ErrLong},
		{"one byte more, in a", "a", full, api.ErrLong},
		{"one byte more, in a alone", full + "a", "", api.ErrLong},
		{"one byte more, in b alone", "", full + "a", api.ErrLong},
		{"two halves", full[:api.MaxStr/2], full[api.MaxStr/2:], api.OK},
		{"a pair that just fits, as one point", full[4:] + loneHi, loneLo, api.OK},
		{"a pair for which a byte is missing", full[3:] + loneHi, loneLo, api.ErrLong},
		{"two surrogates that are no pair", full[4:] + loneHi, loneHi, api.ErrLong},
		{"two surrogates that are no pair, and fit", full[6:] + loneHi, loneHi, api.OK},
	}
	for _, c := range rows {
		got, e := units.Concat(c.a, c.b)
		if e != c.want || e != api.OK && got != "" || e == api.OK && len(got) != api.MaxStr {
			t.Errorf("%s: %d bytes, %d, want %d", c.name, len(got), e, c.want)
		}
	}
}

// 1.6

func TestCompare(t *testing.T) {
	rows := []struct {
		a, b string
		want int
	}{
		{"", "", 0},
		{"", "a", -1},
		{"a", "", 1},
		{"a", "ab", -1},
		{"b", "ab", 1},
		{"a", "a", 0},
		{"\xEF\xBF\xBF", "\xF0\x90\x80\x80", 1},
		{"\xEE\x80\x80", "\xF4\x8F\xBF\xBF", 1},
		{"\xED\x9F\xBF", "\xF0\x90\x80\x80", -1},
		{loneHi, "\xF0\x9F\x98\x80", -1},
		{loneHi + "a", "\xF0\x9F\x98\x80", -1},
		{loneHi + "\xEE\x80\x80", "\xF0\x9F\x98\x80", 1},
		{loneLo, "\xF0\x9F\x98\x80", 1},
		{smile, smile, 0},
	}
	for _, c := range rows {
		if got, e := units.Compare(c.a, c.b); got != c.want || e != api.OK {
			t.Errorf("Compare(%x, %x): %d, %d, want %d", c.a, c.b, got, e, c.want)
		}
		if got, e := units.Compare(c.b, c.a); got != -c.want || e != api.OK {
			t.Errorf("Compare(%x, %x): %d, %d, want %d", c.b, c.a, got, e, -c.want)
		}
	}
}

func compareRows(a, b []uint16) int {
	for i := 0; i < len(a) && i < len(b); i++ {
		if a[i] != b[i] {
			if a[i] < b[i] {
				return -1
			}
			return 1
		}
	}
	switch {
	case len(a) < len(b):
		return -1
	case len(a) > len(b):
		return 1
	}
	return 0
}

func TestCompareOfRows(t *testing.T) {
	rows := edgeRows(2)
	for _, a := range rows {
		for _, b := range rows {
			if got, e := units.Compare(stringOf(a), stringOf(b)); got != compareRows(a, b) || e != api.OK {
				t.Errorf("Compare of %x and %x: %d, %d, want %d", a, b, got, e, compareRows(a, b))
			}
		}
	}
}

// 1.7

func TestIndex(t *testing.T) {
	rows := []struct {
		s, t       string
		from, want int
	}{
		{smile, loneLo, 0, 2},
		{smile, loneHi, 0, 1},
		{smile, loneHi, 2, -1},
		{smile, "a" + loneHi, 0, 0},
		{smile, "\xF0\x9F\x98\x80", 0, 1},
		{smile, smile, 0, 0},
		{smile, smile + "a", 0, -1},
		{"abab", "ab", 0, 0},
		{"abab", "ab", 1, 2},
		{"abab", "ab", 2, 2},
		{"abab", "ab", 3, -1},
		{"abab", "ab", -1, 0},
		{"abab", "ab", math.MinInt, 0},
		{"abab", "ab", math.MaxInt, -1},
		{"abab", "", -5, 0},
		{"abab", "", 0, 0},
		{"abab", "", 3, 3},
		{"abab", "", 4, 4},
		{"abab", "", 5, -1},
		{"abab", "", math.MaxInt, -1},
		{"", "", 0, 0},
		{"", "", 1, -1},
		{"", "a", 0, -1},
		{smile, "", 3, 3},
		{smile, "", 4, -1},
		{"aabaabaaab", "aabaaab", 0, 3},
		{"ababac", "abac", 0, 2},
		{"\xC3\xA9", "\xC3\xA8", 0, -1},
	}
	for _, c := range rows {
		if got, e := units.Index(c.s, c.t, c.from); got != c.want || e != api.OK {
			t.Errorf("Index(%x, %x, %d): %d, %d, want %d", c.s, c.t, c.from, got, e, c.want)
		}
	}
}

func indexOfRow(l, t []uint16, from int) int {
	for k := max(from, 0); k+len(t) <= len(l); k++ {
		if sameUnits(l[k:k+len(t)], t) {
			return k
		}
	}
	return -1
}

func TestIndexOfRows(t *testing.T) {
	r := rand.New(rand.NewSource(3))
	few := []uint16{'a', 0xD83D, 0xDE00}
	row := func(most int) []uint16 {
		l := make([]uint16, r.Intn(most+1))
		for i := range l {
			l[i] = few[r.Intn(len(few))]
		}
		return l
	}
	for range 20000 {
		l, part := row(14), row(5)
		from := r.Intn(len(l)+4) - 2
		want := indexOfRow(l, part, from)
		if got, e := units.Index(stringOf(l), stringOf(part), from); got != want || e != api.OK {
			t.Errorf("Index of %x in %x from %d: %d, %d, want %d", part, l, from, got, e, want)
		}
	}
}

func TestIndexOfLongStrings(t *testing.T) {
	s := strings.Repeat("a", api.MaxStr-1) + "b"
	part := strings.Repeat("a", api.MaxStr/2) + "b"
	if got, e := units.Index(s, part, 0); got != api.MaxStr/2-1 || e != api.OK {
		t.Errorf("Index: %d, %d", got, e)
	}
}

// 1.8

func TestWell(t *testing.T) {
	manyRows(func(l []uint16) {
		want := true
		for _, p := range pointsOf(l) {
			want = want && (p.code < 0xD800 || p.code > 0xDFFF)
		}
		if got, e := units.Well(stringOf(l)); got != want || e != api.OK {
			t.Errorf("Well of %x: %v, %d, want %v", l, got, e, want)
		}
	})
}

func collect(s string) []point {
	var out []point
	for at, c := range units.Points(s) {
		out = append(out, point{at, c})
	}
	return out
}

func TestPoints(t *testing.T) {
	if got := collect(smile); !slices.Equal(got, []point{{0, 0x61}, {1, 0x1F600}}) {
		t.Errorf("Points(%x): %v", smile, got)
	}
	if got := collect(smile + loneHi + "b"); !slices.Equal(got, []point{{0, 0x61}, {1, 0x1F600}, {3, 0xD83D}, {4, 'b'}}) {
		t.Errorf("Points: %v", got)
	}
	manyRows(func(l []uint16) {
		if got := collect(stringOf(l)); !slices.Equal(got, pointsOf(l)) {
			t.Errorf("Points of %x: %v, want %v", l, got, pointsOf(l))
		}
	})
}

func TestPointsOfNoStrings(t *testing.T) {
	for why, s := range noStrings() {
		seq := units.Points(s)
		if seq == nil {
			t.Fatalf("%s: no iterator", why)
		}
		for at, c := range seq {
			t.Errorf("%s: %d %x", why, at, c)
		}
	}
}

func TestPointsLeftAgainAndWithin(t *testing.T) {
	seq := units.Points(smile + "b")
	for at := range seq {
		if at != 0 {
			t.Errorf("left at once, it went on to %d", at)
		}
		break
	}
	want := []int{0, 0, 1, 3, 1, 0, 1, 3, 3, 0, 1, 3}
	for range 2 {
		var got []int
		for at := range seq {
			got = append(got, at)
			for inner := range seq {
				got = append(got, inner)
			}
		}
		if !slices.Equal(got, want) {
			t.Errorf("within itself: %v, want %v", got, want)
		}
	}
}

// 1.9

func TestThereAndBack(t *testing.T) {
	manyRows(func(l []uint16) {
		s := units.Of(l)
		back, e := units.Units(s)
		if !sameUnits(back, l) || e != api.OK {
			t.Errorf("Units(Of(%x)): %x, %d", l, back, e)
		}
		if again := units.Of(back); again != s {
			t.Errorf("Of(Units(%x)): %x", s, again)
		}
	})
}

func TestSlicesPutTogether(t *testing.T) {
	manyRows(func(l []uint16) {
		s := units.Of(l)
		for i := 0; i <= len(l); i++ {
			for j := i; j <= len(l); j++ {
				a, e1 := units.Slice(s, 0, i)
				b, e2 := units.Slice(s, i, j)
				c, e3 := units.Slice(s, j, len(l))
				ab, e4 := units.Concat(a, b)
				abc, e5 := units.Concat(ab, c)
				if abc != s || e1|e2|e3|e4|e5 != api.OK {
					t.Errorf("%x cut at %d and %d: %x", s, i, j, abc)
				}
			}
		}
	})
}

func TestTextAgainstWell(t *testing.T) {
	manyRows(func(l []uint16) {
		s := units.Of(l)
		x, _ := units.Text(s)
		well, _ := units.Well(s)
		if (x == s) != well {
			t.Errorf("%x: Text %x, Well %v", s, x, well)
		}
		if utf8.ValidString(s) != well {
			t.Errorf("%x: UTF-8 %v, Well %v", s, utf8.ValidString(s), well)
		}
	})
}

func TestCompareIsAnOrder(t *testing.T) {
	r := rand.New(rand.NewSource(4))
	compare := func(a, b string) int {
		n, e := units.Compare(a, b)
		if e != api.OK {
			t.Errorf("Compare(%x, %x): %d", a, b, e)
		}
		return n
	}
	for range 3000 {
		a, b, c := units.Of(randomRow(r, 3)), units.Of(randomRow(r, 3)), units.Of(randomRow(r, 3))
		if (compare(a, b) == 0) != (a == b) {
			t.Errorf("%x and %x: %d", a, b, compare(a, b))
		}
		if compare(a, b) <= 0 && compare(b, c) <= 0 && compare(a, c) > 0 {
			t.Errorf("%x, %x, %x: no order", a, b, c)
		}
	}
	bmp, astral := "\xEF\xBF\xBF", "\xF0\x90\x80\x80"
	if compare(bmp, astral) != 1 || bmp > astral {
		t.Error("Compare is the order of bytes")
	}
}
