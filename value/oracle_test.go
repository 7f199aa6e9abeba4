package value_test

// What the document's words say, written down a second time, by other means than the package has: tables in which each value stands with its text, and recognizers by regular expressions and the library's own texts of floats.

import (
	"fmt"
	"math"
	"regexp"
	"strconv"
	"strings"
	"unicode/utf16"
	"unicode/utf8"

	"cameo/api"
)

var (
	inf    = math.Inf(1)
	nan    = math.NaN()
	minus0 = math.Copysign(0, -1)
)

func num(x float64) api.Value { return api.Value{Kind: 4, Num: x} }
func str(s string) api.Value  { return api.Value{Kind: 5, Str: s} }
func sym(n int) api.Value     { return api.Value{Kind: 6, Id: n} }
func ref(n int) api.Value     { return api.Value{Kind: 7, Id: n} }

type row struct {
	v     api.Value
	text  string
	truth bool
}

// rows are values with their texts and whether they are true, in the order of Sort, no two of them the same.
func rows() []row {
	l := []row{
		{api.Value{Kind: 1}, "undefined", false}, {api.Value{Kind: 2}, "null", false},
		{api.Value{Kind: 3}, "false", false}, {api.Value{Kind: 3, Bool: true}, "true", true},
	}
	l = append(l, numberRows()...)
	l = append(l, stringRows()...)
	for _, n := range []int{1, 2, 9, 10, 11, 13, 14, 100, 65535, 65536} {
		l = append(l, row{sym(n), "@" + strconv.Itoa(n), true})
	}
	for _, n := range []int{1, 2, 5, 9, 10, 100, 65535, 65536} {
		l = append(l, row{ref(n), "#" + strconv.Itoa(n), true})
	}
	return l
}

func numberRows() []row {
	return []row{
		{num(-inf), "-Infinity", true}, {num(-math.MaxFloat64), "-1.7976931348623157e+308", true}, {num(-1e21), "-1e+21", true},
		{num(-10), "-10", true}, {num(-9), "-9", true}, {num(-1.5), "-1.5", true}, {num(-1), "-1", true}, {num(-1e-7), "-1e-7", true}, {num(-5e-324), "-5e-324", true},
		{num(minus0), "-0", false}, {num(0), "0", false},
		{num(5e-324), "5e-324", true}, {num(1.5e-7), "1.5e-7", true}, {num(0.000001), "0.000001", true}, {num(0.1), "0.1", true}, {num(1), "1", true}, {num(1.5), "1.5", true}, {num(2), "2", true}, {num(10), "10", true},
		{num(1<<53 - 1), "9007199254740991", true}, {num(123456789012345680000), "123456789012345680000", true}, {num(1e21), "1e+21", true},
		{num(math.MaxFloat64), "1.7976931348623157e+308", true}, {num(inf), "Infinity", true}, {num(nan), "NaN", false},
	}
}

func stringRows() []row {
	return []row{
		{str(""), `""`, false}, {str("\x00"), `"\u0000"`, true}, {str("\x08"), `"\u0008"`, true}, {str("\t"), `"\t"`, true}, {str("\n"), `"\n"`, true},
		{str("\x0B"), `"\u000b"`, true}, {str("\x0C"), `"\u000c"`, true}, {str("\r"), `"\r"`, true}, {str("\x1F"), `"\u001f"`, true}, {str(" "), `" "`, true},
		{str("\""), `"\""`, true}, {str("\"\""), `"\"\""`, true}, {str("#1"), `"#1"`, true}, {str("'"), `"'"`, true}, {str("/"), `"/"`, true}, {str("0"), `"0"`, true}, {str("10"), `"10"`, true}, {str("9"), `"9"`, true},
		{str("@1"), `"@1"`, true}, {str("\\"), `"\\"`, true}, {str("\\\""), `"\\\""`, true}, {str("\\n"), `"\\n"`, true}, {str("\\ud83d"), `"\\ud83d"`, true},
		{str("a"), `"a"`, true}, {str("a\x00"), `"a\u0000"`, true}, {str("a\"\n\xED\xA0\xBD"), `"a\"\n\ud83d"`, true}, {str("ab"), `"ab"`, true}, {str("b"), `"b"`, true},
		{str("false"), `"false"`, true}, {str("~"), `"~"`, true}, {str("\x7F"), `"\u007f"`, true}, {str("\u0080"), "\"\u0080\"", true}, {str("\u009F"), "\"\u009F\"", true}, {str("é"), `"é"`, true},
		{str("\u2028"), "\"\u2028\"", true}, {str("\uD7FF"), "\"\uD7FF\"", true},
		{str("\xED\xA0\x80"), `"\ud800"`, true}, {str("\xED\xA0\x80a"), `"\ud800a"`, true}, {str("\xED\xA0\x80\xED\xA0\x80"), `"\ud800\ud800"`, true}, {str("\U00010000"), "\"\U00010000\"", true},
		{str("\xED\xA0\xBD"), `"\ud83d"`, true}, {str("\xED\xA0\xBD\\ude00"), `"\ud83d\\ude00"`, true}, {str("\xED\xA0\xBD\U0001F600"), "\"\\ud83d\U0001F600\"", true}, {str("\U0001F600"), "\"\U0001F600\"", true}, {str("\U0001F600\xED\xB8\x80"), "\"\U0001F600\\ude00\"", true},
		{str("\xED\xAF\xBF"), `"\udbff"`, true}, {str("\U0010FFFF"), "\"\U0010FFFF\"", true},
		{str("\xED\xB0\x80"), `"\udc00"`, true}, {str("\xED\xB8\x80\xED\xA0\xBD"), `"\ude00\ud83d"`, true}, {str("\xED\xBF\xBF"), `"\udfff"`, true},
		{str("\uE000"), "\"\uE000\"", true}, {str("\uFFFD"), "\"\uFFFD\"", true}, {str("\uFFFF"), "\"\uFFFF\"", true},
	}
}

// nans are numbers that are not a number, of several bits: all one value.
func nans() []api.Value {
	var l []api.Value
	for _, bits := range []uint64{0x7FF0000000000001, 0x7FF8000000000000, 0x7FF8000000000001, 0xFFF0000000000001, 0xFFF8000000000000, 0xFFFFFFFFFFFFFFFF} {
		l = append(l, num(math.Float64frombits(bits)))
	}
	return append(l, num(nan))
}

// noStrings are bytes that no value can have.
func noStrings() []string {
	return []string{"\xFF", "a\x80", "\xC0\x80", "\xE0\x9F\xBF", "\xF4\x90\x80\x80", "\xED\xA0", "\xED\xA0\xBD\xED\xB8\x80", "\U0001F600\xED\xA0\xBD\xED\xB8\x80"}
}

// wrongs are values that are not well formed, each for a reason of its own.
func wrongs() []api.Value {
	l := []api.Value{{}, {Kind: -1}, {Kind: 8}, {Kind: math.MaxInt}, {Kind: math.MinInt}, {Bool: true}, {Num: 1}, {Str: "a"}, {Id: 1}}
	for _, r := range rows() {
		for _, f := range []func(v *api.Value){
			func(v *api.Value) { v.Bool = true }, func(v *api.Value) { v.Num = 1 }, func(v *api.Value) { v.Num = minus0 }, func(v *api.Value) { v.Num = nan }, func(v *api.Value) { v.Num = 5e-324 },
			func(v *api.Value) { v.Str = "a" }, func(v *api.Value) { v.Str = "\xFF" },
			func(v *api.Value) { v.Id = 1 }, func(v *api.Value) { v.Id = -1 }, func(v *api.Value) { v.Id = math.MinInt }, func(v *api.Value) { v.Kind = 0 }, func(v *api.Value) { v.Kind += 7 }, func(v *api.Value) { v.Kind = -v.Kind },
		} {
			v := r.v
			if f(&v); !well(v) {
				l = append(l, v)
			}
		}
	}
	for _, s := range noStrings() {
		l = append(l, str(s))
	}
	l = append(l, str(strings.Repeat("a", api.MaxStr+1)))
	for _, n := range []int{0, -1, -65536, 65537, 1 << 32, 1<<32 + 1, math.MaxInt, math.MinInt} {
		l = append(l, sym(n), ref(n))
	}
	return l
}

// well tells whether a value is well formed: by taking away what its kind may have, and asking whether nothing is left.
func well(v api.Value) bool {
	switch v.Kind {
	case 1, 2:
	case 3:
		v.Bool = false
	case 4:
		v.Num = 0
	case 5:
		if len(v.Str) > 1048576 || !isString(v.Str) {
			return false
		}
		v.Str = ""
	case 6, 7:
		if v.Id < 1 || v.Id > 65536 {
			return false
		}
		v.Id = 0
	default:
		return false
	}
	return !v.Bool && v.Str == "" && v.Id == 0 && v.Num == 0 && !math.Signbit(v.Num)
}

// isString tells whether bytes are a string: UTF-8 with surrogates among it, none of them a pair.
func isString(s string) bool {
	var kinds []byte
	for s != "" {
		if len(s) >= 3 && s[0] == 0xED && s[1] >= 0xA0 && s[1] <= 0xBF && s[2] >= 0x80 && s[2] <= 0xBF {
			kinds = append(kinds, "hl"[(s[1]-0xA0)/16])
			s = s[3:]
			continue
		}
		r, n := utf8.DecodeRuneInString(s)
		if r == utf8.RuneError && n < 3 {
			return false
		}
		kinds = append(kinds, '.')
		s = s[n:]
	}
	return !strings.Contains(string(kinds), "hl")
}

// mark is a text that two values have in common just if they are the same.
func mark(v api.Value) string {
	n := fmt.Sprintf("%x", math.Float64bits(v.Num))
	if v.Num != v.Num {
		n = "not a number"
	}
	return fmt.Sprintf("%d %t %s %q %d", v.Kind, v.Bool, n, v.Str, v.Id)
}

// textOfRow is the text of the string of some units.
func textOfRow(l []uint16) string {
	out := "\""
	for i := 0; i < len(l); i++ {
		u := rune(l[i])
		if i+1 < len(l) {
			if c := utf16.DecodeRune(u, rune(l[i+1])); c != utf8.RuneError {
				out += string(c)
				i++
				continue
			}
		}
		switch {
		case u == 0x22:
			out += "\\\""
		case u == 0x5C:
			out += "\\\\"
		case u == 0xA:
			out += "\\n"
		case u == 0xD:
			out += "\\r"
		case u == 9:
			out += "\\t"
		case u < 0x20, u == 0x7F, utf16.IsSurrogate(u):
			out += fmt.Sprintf("\\u%04x", u)
		default:
			out += string(u)
		}
	}
	return out + "\""
}

var (
	digitsText = regexp.MustCompile(`^[1-9][0-9]{0,4}$`)
	numberText = regexp.MustCompile(`^-?[0-9.e+-]+$`)
	stringText = regexp.MustCompile(`^"(?:[^"\\\x00-\x1f\x7f]|\\["\\nrt]|\\u00(?:0[0-8bcef]|1[0-9a-f]|7f)|\\ud[89a-f][0-9a-f]{2})*"$`)
	stringPart = regexp.MustCompile(`\\u....|\\.|[^\\]`)
)

// isText tells whether s is the text of a value.
func isText(s string) bool {
	switch {
	case s == "undefined", s == "null", s == "true", s == "false", s == "NaN", s == "Infinity", s == "-Infinity", s == "-0":
		return true
	case strings.HasPrefix(s, "@"), strings.HasPrefix(s, "#"):
		n, _ := strconv.Atoi(s[1:])
		return digitsText.MatchString(s[1:]) && n <= 65536
	case strings.HasPrefix(s, "\""):
		return stringText.MatchString(s) && utf8.ValidString(s) && !hasPair(s)
	}
	x, err := strconv.ParseFloat(s, 64)
	return err == nil && numberText.MatchString(s) && floatText(x) == s
}

// hasPair tells whether, in a string's text, a high surrogate is written ahead of a low one, both as \u.
func hasPair(s string) bool {
	parts := stringPart.FindAllString(s, -1)
	for i := 1; i < len(parts); i++ {
		if high.MatchString(parts[i-1]) && low.MatchString(parts[i]) {
			return true
		}
	}
	return false
}

var (
	high = regexp.MustCompile(`^\\ud[89ab]`)
	low  = regexp.MustCompile(`^\\ud[c-f]`)
)

// floatText is the text of a finite float, but of -0, put together of the library's.
func floatText(x float64) string {
	if x == 0 {
		return "0"
	}
	if a := math.Abs(x); a >= 1e-6 && a < 1e21 {
		return strconv.FormatFloat(x, 'f', -1, 64)
	}
	s := strconv.FormatFloat(x, 'e', -1, 64)
	return regexp.MustCompile(`e([+-])0(\d)$`).ReplaceAllString(s, "e$1$2")
}
