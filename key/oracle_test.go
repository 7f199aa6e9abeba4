package key_test

// What the document's words say, written down a second time, by other means than the package has: a table of keys in their order, each with its text, and recognizers by regular expressions, by the lengths of digits, and by the library's own texts of floats.

import (
	"cmp"
	"math"
	"math/rand"
	"regexp"
	"slices"
	"strconv"
	"strings"
	"unicode/utf16"
	"unicode/utf8"

	"cameo/api"
)

var (
	inf    = math.Inf(1)
	nan    = math.NaN()
	minus0 = math.Copysign(0, -1)
	none   = api.Key{}
)

func str(s string) api.Key { return api.Key{Str: s} }
func sym(n int) api.Key    { return api.Key{Sym: n} }

func strs(l ...string) []api.Key {
	var out []api.Key
	for _, s := range l {
		out = append(out, str(s))
	}
	return out
}

type row struct {
	k    api.Key
	text string
}

// rows are keys with their texts, in the order of Compare, no two of them the same.
func rows() []row {
	var l []row
	for _, s := range []string{"0", "1", "2", "7", "9", "10", "11", "99", "100", "999999999", "1000000000", "2147483647", "2147483648", "4294967289", "4294967293", "4294967294"} {
		l = append(l, row{str(s), `"` + s + `"`})
	}
	l = append(l, stringRows()...)
	for _, n := range []int{1, 2, 3, 9, 10, 11, 13, 14, 100, 65535, 65536} {
		l = append(l, row{sym(n), "@" + strconv.Itoa(n)})
	}
	return l
}

func stringRows() []row {
	l := []row{{str(""), `""`}, {str("\x00"), `"\u0000"`}, {str("\t"), `"\t"`}, {str("\n1"), `"\n1"`}, {str("\r"), `"\r"`}, {str(" 1"), `" 1"`}, {str("\"a\""), `"\"a\""`}}
	for _, s := range []string{
		"#1", "+0", "+1", "-", "-0", "-1", "-Infinity", "-NaN", ".5", "/", "0 ", "0.5", "00", "000", "01", "0x1", "1 ", "1,0", "1.0", "100000000000000000000", "18446744073709551616", "18446744073709551617", "1_0", "1e+21", "1e21",
		"4294967295", "4294967296", "4294967297", "4294967299", "9007199254740990", "9007199254740991", "9007199254740992", "9007199254740993", "9223372036854775807", "9223372036854775808", ":",
		"@1", "A", "Infinity", "NaN", "a", "a1", "aa", "b", "length", "null", "true", "undefined",
	} {
		l = append(l, row{str(s), `"` + s + `"`})
	}
	return append(l, []row{
		{str("\x7F"), `"\u007f"`}, {str("\u00A01"), "\"\u00A01\""}, {str("é"), `"é"`}, {str("\u0661"), "\"\u0661\""}, {str("\uD7FF"), "\"\uD7FF\""},
		{str("\xED\xA0\x80"), `"\ud800"`}, {str("\xED\xA0\x80a"), `"\ud800a"`}, {str("\U00010000"), "\"\U00010000\""}, {str("\xED\xA0\xBD"), `"\ud83d"`}, {str("\U0001F600"), "\"\U0001F600\""},
		{str("\xED\xB0\x80"), `"\udc00"`}, {str("\xED\xB8\x80\xED\xA0\xBD"), `"\ude00\ud83d"`}, {str("\uE000"), "\"\uE000\""}, {str("\uFF11"), "\"\uFF11\""}, {str("\uFFFF"), "\"\uFFFF\""},
	}...)
}

// noStrings are bytes that no key can have.
func noStrings() []string {
	return []string{"\xFF", "1\xFF", "a\x80", "\xC0\x80", "\xC0\xB1", "\xE0\x9F\xBF", "\xF4\x90\x80\x80", "\xED\xA0", "\xED\xA0\xBD\xED\xB8\x80", "\U0001F600\xED\xA0\xBD\xED\xB8\x80", strings.Repeat("1", api.MaxStr-1) + "\xFF", strings.Repeat("a", api.MaxStr+1), strings.Repeat("1", api.MaxStr+1), strings.Repeat("\x00", 2*api.MaxStr), strings.Repeat("\U0001F600", api.MaxStr/4+1)}
}

// wrongs are keys that are not well formed, each for a reason of its own.
func wrongs() []api.Key {
	l := strs(noStrings()...)
	for _, n := range []int{-1, -13, -65536, 65537, 65538, 1 << 32, 1<<32 + 1, math.MaxInt, math.MinInt} {
		l = append(l, sym(n), api.Key{Str: "a", Sym: n})
	}
	for _, s := range []string{"a", "1", "@1", "\x00", "\xFF", strings.Repeat("a", api.MaxStr+1)} {
		l = append(l, api.Key{Str: s, Sym: 1}, api.Key{Str: s, Sym: 65536})
	}
	return l
}

// well tells whether a key is well formed.
func well(k api.Key) bool {
	if k.Sym == 0 {
		return len(k.Str) <= 1048576 && isString(k.Str)
	}
	return k.Sym >= 1 && k.Sym <= 65536 && k.Str == ""
}

// isString tells whether bytes are a string: UTF-8 with surrogates among it, none of them a pair.
func isString(s string) bool {
	var kinds []byte
	for s != "" {
		if len(s) >= 3 && s[0] == 0xED && s[1] >= 0xA0 && s[1] <= 0xBF && s[2] >= 0x80 && s[2] <= 0xBF {
			kinds = append(kinds, "hl"[(s[1]-0xA0)/16])
			s = s[3:]
			continue
		}
		r, n := utf8.DecodeRuneInString(s)
		if r == utf8.RuneError && n < 3 {
			return false
		}
		kinds = append(kinds, '.')
		s = s[n:]
	}
	return !strings.Contains(string(kinds), "hl")
}

var (
	digitsOnly = regexp.MustCompile(`\A(0|[1-9][0-9]*)\z`)
	numberOnly = regexp.MustCompile(`\A-?[0-9.e+-]+\z`)
)

// digitsOf is the number whose digits s is, if it is not above most: digits without a 0 ahead are in the order of their lengths, and then of their bytes.
func digitsOf(s string, most string) (uint64, bool) {
	if !digitsOnly.MatchString(s) || cmp.Or(cmp.Compare(len(s), len(most)), cmp.Compare(s, most)) > 0 {
		return 0, false
	}
	n, err := strconv.ParseUint(s, 10, 64)
	return n, err == nil
}

// numericOf is the number of a canonical numeric string.
func numericOf(s string) (float64, bool) {
	switch s {
	case "-0":
		return minus0, true
	case "NaN":
		return nan, true
	case "Infinity":
		return inf, true
	case "-Infinity":
		return -inf, true
	}
	x, err := strconv.ParseFloat(s, 64)
	if err != nil || !numberOnly.MatchString(s) || floatText(x) != s {
		return 0, false
	}
	return x, true
}

// floatText is the text of a finite float, put together of the library's.
func floatText(x float64) string {
	if x == 0 {
		return "0"
	}
	if a := math.Abs(x); a >= 1e-6 && a < 1e21 {
		return strconv.FormatFloat(x, 'f', -1, 64)
	}
	s := strconv.FormatFloat(x, 'e', -1, 64)
	return regexp.MustCompile(`e([+-])0(\d)\z`).ReplaceAllString(s, "e$1$2")
}

// kindOf is 0 of an array index, 1 of another string, 2 of a symbol; and the index.
func kindOf(k api.Key) (int, uint64) {
	if k.Sym != 0 {
		return 2, 0
	}
	if n, ok := digitsOf(k.Str, "4294967294"); ok {
		return 0, n
	}
	return 1, 0
}

// unitsOf is the units of a string: of Go's text where it is one, each surrogate that stands alone as itself.
func unitsOf(s string) []uint16 {
	var l []uint16
	for s != "" {
		if s[0] == 0xED && s[1] >= 0xA0 {
			l = append(l, 0xD000+uint16(s[1]&0x3F)<<6+uint16(s[2]&0x3F))
			s = s[3:]
			continue
		}
		c, n := utf8.DecodeRuneInString(s)
		l = utf16.AppendRune(l, c)
		s = s[n:]
	}
	return l
}

// compareKeys is the order of two keys.
func compareKeys(a, b api.Key) int {
	i, n := kindOf(a)
	j, m := kindOf(b)
	return cmp.Or(cmp.Compare(i, j), cmp.Compare(n, m), slices.Compare(unitsOf(a.Str), unitsOf(b.Str)), cmp.Compare(a.Sym, b.Sym))
}

// orderKeys is keys by their kinds and numbers, all else as it stands.
func orderKeys(l []api.Key) []api.Key {
	out := slices.Clone(l)
	slices.SortStableFunc(out, func(a, b api.Key) int {
		i, n := kindOf(a)
		j, m := kindOf(b)
		return cmp.Or(cmp.Compare(i, j), cmp.Compare(n, m))
	})
	return out
}

// eachText calls f with all rows of up to n of some parts.
func eachText(parts []string, n int, f func(s string)) {
	f("")
	if n == 0 {
		return
	}
	for _, p := range parts {
		eachText(parts, n-1, func(s string) { f(p + s) })
	}
}

// randomString is a short string of what matters to keys: digits, signs, surrogates.
func randomString(r *rand.Rand) string {
	parts := []string{"0", "1", "2", "9", "42949672", "94", "95", "-", "+", ".", "e", "a", "b", " ", "\x00", "\"", "\\", "\n", "é", "\uFFFF", "\U00010000", "\U0001F600", "\xED\xA0\xBD", "\xED\xB8\x80"}
	for {
		s := ""
		for range r.Intn(5) {
			s += parts[r.Intn(len(parts))]
		}
		if isString(s) {
			return s
		}
	}
}

// randomKey is a key of any kind, some of them often.
func randomKey(r *rand.Rand) api.Key {
	switch r.Intn(5) {
	case 0:
		return sym(1 + r.Intn(20))
	case 1:
		return sym(1 + r.Intn(65536))
	case 2:
		return str(strconv.Itoa(r.Intn(30)))
	case 3:
		return str(strconv.FormatUint(uint64(r.Uint32())+uint64(r.Intn(3)), 10))
	}
	return str(randomString(r))
}
