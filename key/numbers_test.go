package key_test

import (
	"math"
	"math/rand"
	"strconv"
	"strings"
	"testing"

	"cameo/api"
	"cameo/key"
	"cameo/number"
)

// 4.3 and 4.8

// disguised holds what a string is against the second reading, and each kind of number in it against the next.
func disguised(t *testing.T, s string) {
	n, isIndex := key.Index(s)
	if want, ok := digitsOf(s, "4294967294"); ok != isIndex || want != uint64(n) {
		t.Errorf("Index(%.60q): %d, %t", s, n, isIndex)
	}
	m, isLength := key.Length(s)
	if want, ok := digitsOf(s, "4294967295"); ok != isLength || want != uint64(m) {
		t.Errorf("Length(%.60q): %d, %t", s, m, isLength)
	}
	i, isInteger := key.Integer(s)
	if want, ok := digitsOf(s, "9007199254740991"); ok != isInteger || want != uint64(i) {
		t.Errorf("Integer(%.60q): %d, %t", s, i, isInteger)
	}
	x, isNumeric := key.Numeric(s)
	if want, ok := numericOf(s); ok != isNumeric || !number.Same(want, x) {
		t.Errorf("Numeric(%.60q): %v, %t", s, x, isNumeric)
	}
	if isIndex && (!isLength || m != n) || isLength && (!isInteger || i != int64(m)) || isInteger && (!isNumeric || x != float64(i)) {
		t.Errorf("%.60q: %t, %t, %t, %t", s, isIndex, isLength, isInteger, isNumeric)
	}
	if isNumeric && s != "-0" && key.FromNumber(x) != str(s) {
		t.Errorf("FromNumber of Numeric(%q): %v", s, key.FromNumber(x))
	}
	if isIndex && key.FromIndex(n) != str(s) {
		t.Errorf("FromIndex of Index(%q): %v", s, key.FromIndex(n))
	}
}

// What the second reading itself says of the chapter's examples is written out.
func TestDisguises(t *testing.T) {
	const index, length, integer, numeric = 4, 3, 2, 1
	for s, want := range map[string]int{
		"0": index, "1": index, "7": index, "10": index, "4294967293": index, "4294967294": index,
		"4294967295": length, "4294967296": integer, "9007199254740990": integer, "9007199254740991": integer,
		"9007199254740992": numeric, "NaN": numeric, "Infinity": numeric, "-Infinity": numeric, "1e+21": numeric, "0.5": numeric, "-1": numeric, "-0": numeric, "1e-7": numeric, "0.000001": numeric, "100000000000000000000": numeric, "-1.5": numeric, "5e-324": numeric, "1.7976931348623157e+308": numeric, "18446744073709552000": numeric, "1125899906842624.2": numeric,
		"": 0, "00": 0, "01": 0, "+1": 0, "1.0": 0, " 1": 0, "1 ": 0, "1\x00": 0, "\x001": 0, "1e21": 0, "0x1": 0, "0b1": 0, "-NaN": 0, "+0": 0, "-00": 0, "-01": 0, "1_0": 0, "1.": 0, ".5": 0, "0.50": 0, "1e1": 0, "1e+5": 0, "1E+21": 0, "0.0000001": 0, "nan": 0, "infinity": 0, "+Infinity": 0, "Infinity ": 0, "9007199254740993": 0, "18446744073709551616": 0, "18446744073709551617": 0, "4294967294 ": 0, "\u0661": 0, "\uFF11": 0, "1\u0661": 0, "\xFF": 0, "1\xFF": 0, "\xED\xA0\xBD": 0, "1125899906842624.3": 0, "1e+400": 0, "-1e+400": 0, "1e-400": 0, "a": 0, "/": 0, ":": 0, "1:": 0, "1/": 0,
	} {
		_, isIndex := key.Index(s)
		_, isLength := key.Length(s)
		_, isInteger := key.Integer(s)
		_, isNumeric := key.Numeric(s)
		if isIndex != (want >= index) || isLength != (want >= length) || isInteger != (want >= integer) || isNumeric != (want >= numeric) {
			t.Errorf("%q: %t, %t, %t, %t", s, isIndex, isLength, isInteger, isNumeric)
		}
		disguised(t, s)
	}
}

func TestDisguisesOfTheRows(t *testing.T) {
	for _, r := range rows() {
		disguised(t, r.k.Str)
	}
	for _, s := range noStrings() {
		disguised(t, s)
	}
}

// The numbers beside each limit of the document, of the machine, and each power of ten and of two; with something ahead or behind, too.
func TestDisguisesAtTheEdges(t *testing.T) {
	var edges []uint64
	for i := range 64 {
		edges = append(edges, 1<<i)
	}
	for p := uint64(1); p < 1e19; p *= 10 {
		edges = append(edges, p)
	}
	edges = append(edges, api.MaxIndex, api.MaxLength, api.MaxSafe, math.MaxInt64, math.MaxUint64-4, 5*api.MaxLength, 10*api.MaxLength, 10*api.MaxSafe)
	for _, n := range edges {
		for away := range uint64(9) {
			s := strconv.FormatUint(n-4+away, 10)
			for _, whole := range []string{s, "0" + s, "00" + s, "-" + s, "+" + s, " " + s, s + " ", s + "0", s + ".0", s + ".5", s + "e0", s + "\x00", s + s, "1" + s} {
				disguised(t, whole)
			}
		}
	}
}

// Sums that wrapped round would come back to numbers that are in range.
func TestDigitsTooMany(t *testing.T) {
	for _, s := range []string{
		"4294967296", "4294967297", "8589934592", "42949672960", "18446744073709551616", "18446744073709551617", "184467440737095516160", "340282366920938463463374607431768211456", "340282366920938463463374607431768211457", "36893488147419103232",
		strings.Repeat("9", 400), "1" + strings.Repeat("0", 309), strings.Repeat("1", api.MaxStr), "1" + strings.Repeat("0", api.MaxStr-1), "0" + strings.Repeat("0", api.MaxStr-1), strings.Repeat("0", api.MaxStr-1) + "1", strings.Repeat("7", 3*api.MaxStr),
	} {
		disguised(t, s)
		if n, ok := key.Index(s); ok || n != 0 {
			t.Errorf("Index(%.60q): %d", s, n)
		}
	}
}

func TestDisguisesOfEveryByte(t *testing.T) {
	for c := range 256 {
		b := string([]byte{byte(c)})
		for _, s := range []string{b, "1" + b, b + "1", "1" + b + "1", "0" + b, b + "0", "429496729" + b, "-" + b, b + b} {
			disguised(t, s)
		}
	}
}

func TestDisguisesOfAllShortStrings(t *testing.T) {
	eachText([]string{"0", "1", "5", ".", "e", "-", "+"}, 5, func(s string) { disguised(t, s) })
}

func TestDisguisesOfRandomNumbers(t *testing.T) {
	r := rand.New(rand.NewSource(3))
	for range 5000 {
		disguised(t, strconv.FormatUint(r.Uint64()>>r.Intn(64), 10))
		disguised(t, number.Text(math.Float64frombits(r.Uint64())))
		disguised(t, strconv.FormatFloat(float64(r.Intn(1e9))/1e4, 'f', 5, 64))
		disguised(t, randomString(r))
	}
}

// 4.4 and 4.8

func TestFromIndex(t *testing.T) {
	numbers := []uint32{4294967286, 4294967293, api.MaxIndex, 2147483647, 2147483648, 999999999, 1000000000}
	for n := range uint32(20000) {
		numbers = append(numbers, n, n*214748+n)
	}
	for _, n := range numbers {
		k := key.FromIndex(n)
		if k != str(strconv.FormatUint(uint64(n), 10)) {
			t.Errorf("FromIndex(%d): %v", n, k)
		}
		if m, ok := key.Index(k.Str); m != n || !ok {
			t.Errorf("Index of FromIndex(%d): %d, %t", n, m, ok)
		}
	}
}

// Of MaxLength there is a key, but it is no array index.
func TestFromIndexOfMaxLength(t *testing.T) {
	k := key.FromIndex(api.MaxLength)
	if k != str("4294967295") {
		t.Errorf("FromIndex: %v", k)
	}
	if n, ok := key.Index(k.Str); ok || n != 0 {
		t.Errorf("Index: %d, %t", n, ok)
	}
	if n, ok := key.Length(k.Str); !ok || n != api.MaxLength {
		t.Errorf("Length: %d, %t", n, ok)
	}
}

func TestFromNumber(t *testing.T) {
	for _, c := range []struct {
		x    float64
		want string
	}{
		{0, "0"}, {minus0, "0"}, {nan, "NaN"}, {inf, "Infinity"}, {-inf, "-Infinity"}, {-1.5, "-1.5"}, {1e21, "1e+21"}, {1e20, "100000000000000000000"}, {1e-7, "1e-7"}, {0.000001, "0.000001"},
		{4294967294, "4294967294"}, {4294967295, "4294967295"}, {4294967296, "4294967296"}, {9007199254740991, "9007199254740991"}, {9007199254740992, "9007199254740992"}, {-4294967294, "-4294967294"},
	} {
		if k := key.FromNumber(c.x); k != str(c.want) {
			t.Errorf("FromNumber(%v): %v", c.x, k)
		}
	}
}
