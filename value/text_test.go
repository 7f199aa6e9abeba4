package value_test

import (
	"encoding/json"
	"fmt"
	"math"
	"math/rand"
	"strings"
	"testing"
	"unicode/utf8"

	"cameo/api"
	"cameo/units"
	"cameo/value"
)

// 3.3

// thereAndBack holds Text against a text, and Parse of it against the value.
func thereAndBack(t *testing.T, v api.Value, text string) {
	if s, e := value.Text(v); s != text || e != api.OK {
		t.Errorf("Text(%.80s): %.80q, %d, want %.80q", mark(v), s, e, text)
	}
	if w, e := value.Parse(text); mark(w) != mark(v) || e != api.OK {
		t.Errorf("Parse(%.80q): %.80s, %d", text, mark(w), e)
	}
}

func refused(t *testing.T, s string) {
	if v, e := value.Parse(s); v != none || e != api.ErrValue {
		t.Errorf("Parse(%.80q): %.80s, %d", s, mark(v), e)
	}
}

// parsesJust holds Parse of a text against whether it is a value's.
func parsesJust(t *testing.T, s string, is bool) {
	if !is {
		refused(t, s)
		return
	}
	v, e := value.Parse(s)
	if e != api.OK || value.Check(v) != api.OK {
		t.Errorf("Parse(%.80q): %.80s, %d", s, mark(v), e)
	}
	if w, e := value.Text(v); w != s || e != api.OK {
		t.Errorf("Parse(%.80q) is %.80s, whose text is %.80q, %d", s, mark(v), w, e)
	}
}

func TestText(t *testing.T) {
	for _, r := range rows() {
		thereAndBack(t, r.v, r.text)
		if !isText(r.text) {
			t.Errorf("%q: the oracle does not know it", r.text)
		}
	}
	for _, v := range nans() {
		thereAndBack(t, v, "NaN")
	}
}

func TestTextOfEveryUnit(t *testing.T) {
	for u := range 0x10000 {
		for _, l := range [][]uint16{{uint16(u)}, {'a', uint16(u), 'b'}, {uint16(u), uint16(u)}, {0xD83D, uint16(u)}, {uint16(u), 0xDE00}} {
			thereAndBack(t, str(units.Of(l)), textOfRow(l))
		}
	}
}

func randomUnits(r *rand.Rand, most int) []uint16 {
	edges := []uint16{0, 8, 9, 0xA, 0xB, 0xC, 0xD, 0x1F, 0x20, '"', '\\', '/', 'n', 'u', 'a', 0x7E, 0x7F, 0x80, 0x7FF, 0x800, 0xD7FF, 0xD800, 0xD83D, 0xDBFF, 0xDC00, 0xDE00, 0xDFFF, 0xE000, 0xFFFF}
	l := make([]uint16, r.Intn(most+1))
	for i := range l {
		l[i] = edges[r.Intn(len(edges))]
		if r.Intn(4) == 0 {
			l[i] = uint16(r.Intn(0x10000))
		}
	}
	return l
}

// The texts of strings are those of a second reading, and, but for surrogates alone, JSON.
func TestTextOfRandomStrings(t *testing.T) {
	r := rand.New(rand.NewSource(5))
	for range 20000 {
		l := randomUnits(r, 12)
		s, text := units.Of(l), textOfRow(l)
		thereAndBack(t, str(s), text)
		var read string
		if err := json.Unmarshal([]byte(text), &read); err != nil {
			t.Fatalf("%q: %v", text, err)
		}
		if want, _ := units.Text(s); read != want {
			t.Errorf("%q: %q", text, read)
		}
		if !isText(text) || !utf8.ValidString(text) {
			t.Errorf("%q: the oracle does not know it", text)
		}
	}
}

func TestTextOfNumbers(t *testing.T) {
	r := rand.New(rand.NewSource(6))
	for range 20000 {
		x := math.Float64frombits(r.Uint64())
		if r.Intn(2) == 0 {
			x = float64(r.Intn(2000000)-1000000) / []float64{1, 8, 10, 1e4, 1e12}[r.Intn(5)]
		}
		if x != 0 && !math.IsNaN(x) && !math.IsInf(x, 0) {
			thereAndBack(t, num(x), floatText(x))
		}
	}
}

func TestTextOfEverySymbolAndObject(t *testing.T) {
	for n := -10; n < 70000; n++ {
		at, hash := fmt.Sprintf("@%d", n), fmt.Sprintf("#%d", n)
		if n < 1 || n > 65536 {
			refused(t, at)
			refused(t, hash)
			continue
		}
		thereAndBack(t, sym(n), at)
		thereAndBack(t, ref(n), hash)
	}
}

func TestTextOfTheLongestStrings(t *testing.T) {
	n := api.MaxStr
	thereAndBack(t, str(strings.Repeat("a", n)), "\""+strings.Repeat("a", n)+"\"")
	thereAndBack(t, str(strings.Repeat("\x00", n)), "\""+strings.Repeat("\\u0000", n)+"\"")
	thereAndBack(t, str(strings.Repeat("\"", n)), "\""+strings.Repeat("\\\"", n)+"\"")
	thereAndBack(t, str(strings.Repeat("\xED\xA0\x80", n/3)), "\""+strings.Repeat("\\ud800", n/3)+"\"")
	refused(t, "\""+strings.Repeat("a", n+1)+"\"")
	refused(t, "\""+strings.Repeat("\\u0000", n+1)+"\"")
	refused(t, "\""+strings.Repeat("\\ud800", n/3+1)+"\"")
	refused(t, strings.Repeat("a", n))
	refused(t, strings.Repeat("\"", n))
	refused(t, strings.Repeat("\\", n))
	refused(t, "\""+strings.Repeat("\\", n+1)+"\"")
	refused(t, strings.Repeat("1", n))
	refused(t, strings.Repeat(" ", n))
	refused(t, "@"+strings.Repeat("1", n))
	refused(t, "#"+strings.Repeat("0", n)+"1")
}

func TestParseOfNoText(t *testing.T) {
	for _, s := range []string{
		"", " ", "\x00", "undefined ", " undefined", "Undefined", "undefine", "undefinedd", "nul", "nulls", "NULL", "True", "TRUE", "tru", "truefalse", "false\n", "none",
		"nan", "-NaN", "+NaN", "NaN0", "infinity", "+Infinity", "Inf", "-Inf", "Infinity ", "--Infinity", "∞",
		"+0", "-", "+", "00", "-00", "0.0", "-0.0", "0.", ".0", "-.5", ".5", "5.", "1.0", "1.50", "01", "+1", " 1", "1 ", "1\n", "\uFEFF1", "1,5", "1_0", "1n",
		"0x1", "0x10", "0b1", "0o7", "1e1", "1e21", "1E+21", "1e+021", "1e+20", "10e+20", "1e+21 ", "1.0e+21", "1e-6", "1e-07", "0.0000001", "1000000000000000000000", "1e400", "1e-400", "-1e400", "5e-325", "2e-324",
		"9007199254740993", "0.30000000000000005", "0.1000000000000000055511151231257827", "1.7976931348623158e+308", "123456789012345678901", "123456789012345680001",
		"@", "#", "@0", "#0", "@-1", "#-1", "@+1", "#+1", "@01", "#01", "@ 1", "@1 ", "@1.0", "@1e1", "@0x1", "@1_0", "@65537", "#65537", "@18446744073709551617", "#4294967297", "@１", "@@1", "##1", "@#1", "1@", "1#", "@a", "#a",
		"\"", "\"\"\"", "\"a", "a\"", "'a'", "\"a\" ", " \"a\"", "\"a\"\"", "\"a\"b\"", "\"\\\"", "\"\\", "\\", "\"\\\"\"\"", "\"a\\\"",
		"\"\n\"", "\"\r\"", "\"\t\"", "\"\x00\"", "\"\x1F\"", "\"\x7F\"", "\"\\a\"", "\"\\b\"", "\"\\f\"", "\"\\v\"", "\"\\0\"", "\"\\/\"", "\"\\'\"", "\"\\x61\"", "\"\\N\"", "\"\\U0000\"",
		"\"\\u\"", "\"\\u0\"", "\"\\u00\"", "\"\\u000\"", "\"\\u0061\"", "\"\\u0022\"", "\"\\u005c\"", "\"\\u000a\"", "\"\\u000A\"", "\"\\u000d\"", "\"\\u0009\"", "\"\\u007F\"", "\"\\u001F\"", "\"\\u+001\"", "\"\\u 001\"", "\"\\u-001\"", "\"\\u0_01\"", "\"\\u{1}\"", "\"\\u{0}1\"", "\"\\u0x1\"",
		"\"\\uD83D\"", "\"\\ud83D\"", "\"\\ud83d\\ude00\"", "\"\\ud83d\xED\xB8\x80\"", "\"\xED\xA0\xBD\\ude00\"", "\"\xED\xA0\xBD\"", "\"\xED\xB8\x80\"", "\"\xED\xA0\xBD\xED\xB8\x80\"", "\"\xFF\"", "\"\xC0\x80\"", "\"\xE2\x82\"", "\"\\\xFF\"", "\"\\é\"", "\"\\\"",
		"\xFF", "\xEF\xBB\xBF1", "undefined\x00", "{}", "[]", "()", "Symbol(a)", "#1#", "null,null",
	} {
		refused(t, s)
		if isText(s) {
			t.Errorf("%q: the oracle takes it", s)
		}
	}
}

func TestParseOfEveryEscape(t *testing.T) {
	for u := range 0x10000 {
		is := u < 0x20 && u != 9 && u != 0xA && u != 0xD || u == 0x7F || u >= 0xD800 && u < 0xE000
		lower, upper := fmt.Sprintf("\"\\u%04x\"", u), fmt.Sprintf("\"\\u%04X\"", u)
		if v, e := value.Parse(lower); (e == api.OK) != is || is && v != str(units.Of([]uint16{uint16(u)})) {
			t.Errorf("Parse(%q): %s, %d", lower, mark(v), e)
		}
		if upper != lower {
			refused(t, upper)
		}
	}
}

// eachText calls f with all rows of up to n of some parts.
func eachText(parts []string, n int, f func(s string)) {
	last := []string{""}
	for range n + 1 {
		var next []string
		for _, s := range last {
			f(s)
			for _, p := range parts {
				next = append(next, s+p)
			}
		}
		last = next
	}
}

func TestParseOfAllShortStrings(t *testing.T) {
	parts := []string{"a", "u", "0", "\"", "\\", "\\n", "\\\"", "\\\\", "\\u0008", "\\u0061", "\\u007f", "\\ud83d", "\\ude00", "\\uDE00", "\\u12", "\\x", "\U0001F600", "\xED\xA0\xBD", "\xED\xB8\x80", "\n", "\x7F", "\xFF"}
	eachText(parts, 3, func(s string) {
		for _, whole := range []string{s, "\"" + s, s + "\"", "\"" + s + "\""} {
			parsesJust(t, whole, isText(whole))
		}
	})
}

func TestParseOfAllShortNumbers(t *testing.T) {
	eachText([]string{"0", "1", "5", ".", "e", "-", "+"}, 6, func(s string) { parsesJust(t, s, isText(s)) })
	eachText([]string{"0", "1", "6", "@", "#", "-", " "}, 5, func(s string) { parsesJust(t, s, isText(s)) })
}

// What is near a text: one byte less, one more, one another.
func TestParseNearTexts(t *testing.T) {
	bytes := "\x00\t\n \"#+-./01259@AEINaefnrtux\\\x7F\x80\xA0\xBD\xED\xFF"
	for _, r := range rows() {
		for i := range len(r.text) + 1 {
			head, tail := r.text[:i], r.text[i:]
			near := []string{head, tail}
			if tail != "" {
				near = append(near, head+tail[1:])
			}
			for j := range len(bytes) {
				near = append(near, head+bytes[j:j+1]+tail)
				if tail != "" {
					near = append(near, head+bytes[j:j+1]+tail[1:])
				}
			}
			for _, s := range near {
				parsesJust(t, s, isText(s))
			}
		}
	}
}

// 3.6

func TestOneTextAValue(t *testing.T) {
	var l []api.Value
	for _, r := range rows() {
		l = append(l, r.v, r.v)
	}
	l = append(l, nans()...)
	for _, a := range l {
		for _, b := range l {
			x, e := value.Text(a)
			y, f := value.Text(b)
			same, g := value.Same(a, b)
			if (x == y) != same || e != api.OK || f != api.OK || g != api.OK {
				t.Errorf("%s, %s: %q, %q, %t", mark(a), mark(b), x, y, same)
			}
		}
	}
}
