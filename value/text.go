package value

import (
	"math"
	"strconv"
	"strings"
	"unicode/utf8"

	"cameo/api"
	"cameo/number"
	"cameo/units"
)

// The bounds of the surrogates stand as numbers, because Go has no rune literal for them.
const (
	firstSurrogate rune = 0xD800
	lastSurrogate  rune = 0xDFFF
	del            rune = 0x7F
)

const hexDigits = "0123456789abcdef"

func textOf(x inner) string {
	switch y := x.(type) {
	case undefined:
		return "undefined"
	case null:
		return "null"
	case boolean:
		return strconv.FormatBool(bool(y))
	case numeral:
		return numberText(float64(y))
	case chars:
		return quote(string(y))
	case symbol:
		return "@" + strconv.Itoa(int(y))
	case object:
		return "#" + strconv.Itoa(int(y))
	}
	return ""
}

// numberText tells the two noughts from each other, as number.Text does not.
func numberText(x float64) string {
	if x == 0 && math.Signbit(x) {
		return "-0"
	}
	return number.Text(x)
}

func quote(s string) string {
	b := make([]byte, 0, len(s)+2)
	b = append(b, '"')
	for _, c := range units.Points(s) {
		b = appendPoint(b, c)
	}
	return string(append(b, '"'))
}

// appendPoint puts a code point behind a text as it stands between quotes.
func appendPoint(b []byte, c rune) []byte {
	switch {
	case c == '"' || c == '\\':
		return append(b, '\\', byte(c))
	case c == '\n':
		return append(b, '\\', 'n')
	case c == '\r':
		return append(b, '\\', 'r')
	case c == '\t':
		return append(b, '\\', 't')
	case c < ' ' || c == del || firstSurrogate <= c && c <= lastSurrogate:
		return append(b, '\\', 'u', hexDigits[c>>12], hexDigits[c>>8&15], hexDigits[c>>4&15], hexDigits[c&15])
	}
	return utf8.AppendRune(b, c)
}

// guess is the one value whose text s can be, though it may have another one; no value, if there is none.
func guess(s string) api.Value {
	switch {
	case s == "undefined":
		return Undefined()
	case s == "null":
		return Null()
	case s == "true" || s == "false":
		return Bool(s == "true")
	case strings.HasPrefix(s, "\""):
		return unquote(s[1:])
	case strings.HasPrefix(s, "@"):
		return Sym(count(s[1:]))
	case strings.HasPrefix(s, "#"):
		return Ref(count(s[1:]))
	}
	return Num(number.Parse(s))
}

// count is the number that digits tell; 0, which no symbol and no object has, if they tell none.
func count(digits string) int {
	n, err := strconv.Atoi(digits)
	if err != nil {
		return 0
	}
	return n
}

// unquote is the string that stands ahead of a quote at the end.
func unquote(s string) api.Value {
	s, ok := strings.CutSuffix(s, "\"")
	if !ok {
		return api.Value{}
	}
	b := make([]byte, 0, len(s))
	for {
		plain, rest, escaped := strings.Cut(s, "\\")
		b = append(b, plain...)
		if !escaped {
			return Str(string(b))
		}
		piece, size := unescape(rest)
		if size == 0 {
			return api.Value{}
		}
		b = append(b, piece...)
		s = rest[size:]
	}
}

// unescape is the unit that is written behind a backslash, as a string, and in how many bytes it is written: 0, if none is.
func unescape(s string) (string, int) {
	if s == "" {
		return "", 0
	}
	switch s[0] {
	case '"', '\\':
		return s[:1], 1
	case 'n':
		return "\n", 1
	case 'r':
		return "\r", 1
	case 't':
		return "\t", 1
	case 'u':
		return unescapeHex(s)
	}
	return "", 0
}

// unescapeHex reads u and four digits.
func unescapeHex(s string) (string, int) {
	if len(s) < 5 {
		return "", 0
	}
	u, err := strconv.ParseUint(s[1:5], 16, 16)
	if err != nil {
		return "", 0
	}
	return units.Of([]uint16{uint16(u)}), 5
}
