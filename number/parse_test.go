package number_test

import (
	"math"
	"math/big"
	"math/rand"
	"slices"
	"strconv"
	"strings"
	"testing"

	"cameo/number"
)

func checkParse(t *testing.T, s string, want float64) {
	t.Helper()
	if x := number.Parse(s); !same(x, want) {
		if len(s) > 60 {
			s = s[:60] + ".."
		}
		t.Errorf("Parse(%q): %v, want %v", s, x, want)
	}
}

func TestParse(t *testing.T) { // 2.7
	for _, c := range []struct {
		text string
		want float64
	}{
		{"", 0}, {" ", 0}, {" -0x1", nan}, {" -0 ", minus0}, {"0x1F", 31}, {"1e400", inf}, {"2e-324", 0}, {"3e-324", 5e-324}, {"9007199254740993", 9007199254740992}, {"1_0", nan}, {".5.", nan}, {"5.", 5}, {"1e", nan},
		{"-1e400", -inf}, {"-2e-324", minus0}, {"+0", 0}, {"-0.0e5", minus0}, {"0e999999999999999999999", 0}, {"-", nan}, {"+", nan}, {".", nan}, {"e1", nan}, {".e1", nan}, {"5.e1", 50}, {"+.5E+1", 5}, {"1e+", nan}, {"1e-", nan}, {"1e1.", nan}, {"--1", nan}, {"+-1", nan}, {"- 1", nan}, {"1 2", nan},
		{"Infinity", inf}, {"+Infinity", inf}, {"-Infinity", -inf}, {" Infinity\n", inf}, {"infinity", nan}, {"Infinit", nan}, {"Infinityx", nan}, {"--Infinity", nan}, {"INFINITY", nan}, {"Inf", nan}, {"NaN", nan}, {"nan", nan}, {"null", nan},
		{"0x", nan}, {"0X", nan}, {"0xg", nan}, {"0xG", nan}, {"+0x1", nan}, {"0b", nan}, {"0b2", nan}, {"0o8", nan}, {"0O17", 15}, {"0B101", 5}, {"0XfF", 255}, {"0x1p4", nan}, {"0x1.8", nan}, {"0x_1", nan}, {"0xx1", nan}, {"x1", nan}, {"0b1e1", nan}, {"00x1", nan}, {"0x-1", nan}, {"017", 17}, {"0x 1", nan}, {"0q1", nan},
		{"0x20000000000001", 9007199254740992}, {"0x20000000000002", 9007199254740994}, {"0x20000000000003", 9007199254740996}, {"0x200000000000010", 144115188075855872}, {"0x200000000000011", 144115188075855904}, {"0x400000000000005", 288230376151711744},
		{"1.7976931348623157e308", most}, {"1.7976931348623158e308", most}, {"1.7976931348623159e308", inf}, {"5e-324", least}, {"2.4703282292062327e-324", 0}, {"2.4703282292062328e-324", least},
		{"1n", nan}, {"1f", nan}, {"1,5", nan}, {"\x00", nan}, {"1\x00", nan}, {"\u0661", nan}, {"\xff", nan}, {"1\xc2", nan}, {"\xa01", nan}, {"\u2212" + "1", nan},
	} {
		checkParse(t, c.text, c.want)
	}
}

// rows are all texts of up to n of some pieces.
func rows(pieces []string, n int) []string {
	all, last := []string{""}, []string{""}
	for range n {
		var next []string
		for _, row := range last {
			for _, p := range pieces {
				next = append(next, row+p)
			}
		}
		all, last = append(all, next...), next
	}
	return all
}

func TestParseAllShort(t *testing.T) { // 2.7: what is a number's text, and what is none
	for _, s := range rows([]string{"0", "7", ".", "e", "E", "+", "-"}, 6) {
		checkParse(t, s, slowParse(s))
	}
	for _, s := range rows([]string{"0", "1", "7", "8", "a", "f", "F", "g", "x", "X", "o", "O", "b", "B"}, 4) {
		checkParse(t, s, slowParse(s))
	}
	for _, s := range rows([]string{"Infinity", "+", "-", "0", "e", "."}, 4) {
		checkParse(t, s, slowParse(s))
	}
	for c := range 256 {
		for _, ahead := range []string{"", "1", "0x", "0o", "0b", "1e", "1.", "."} {
			s := ahead + string([]byte{byte(c)})
			if strings.TrimLeft(s, "\t\n\v\f\r ") == s && strings.TrimRight(s, "\t\n\v\f\r ") == s {
				checkParse(t, s, slowParse(s))
			}
		}
	}
}

// whites are the characters that the chapter calls white space.
func whites() []rune {
	l := []rune{0x20, 0xA0, 0x1680, 0x2028, 0x2029, 0x202F, 0x205F, 0x3000, 0xFEFF}
	for c := rune(0x09); c <= 0x0D; c++ {
		l = append(l, c)
	}
	for c := rune(0x2000); c <= 0x200A; c++ {
		l = append(l, c)
	}
	return l
}

func TestWhiteSpace(t *testing.T) { // 2.7
	white := whites()
	for c := rune(0); c <= 0x10FFFF; c++ {
		if c >= 0xD800 && c <= 0xDFFF || c >= '0' && c <= '9' || c == '+' || c == '-' || c == '.' {
			continue
		}
		ahead, behind, alone := number.Parse(string(c)+"7"), number.Parse("7"+string(c)), number.Parse(string(c))
		if slices.Contains(white, c) {
			if ahead != 7 || behind != 7 || !same(alone, 0) {
				t.Errorf("%x is white space: %v, %v, %v", c, ahead, behind, alone)
			}
		} else if ahead == ahead || behind == behind || alone == alone {
			t.Errorf("%x is no white space: %v, %v, %v", c, ahead, behind, alone)
		}
	}
	for _, c := range white { // a part of a character, or an overlong form, is none
		s := string(c)
		for i := 1; i < len(s); i++ {
			checkParse(t, s[:i]+"7", nan)
			checkParse(t, "7"+s[:i], nan)
			checkParse(t, s[i:]+"7", nan)
			checkParse(t, "7"+s[i:], nan)
		}
	}
	checkParse(t, "7\xc0\xa0", nan)
	checkParse(t, "\xed\xa0\x80"+"7", nan)
	checkParse(t, "7 7", nan)
}

func TestParseHalves(t *testing.T) { // 2.7: by half to even
	list := append(some(600), least, 2*least, 3*least, most, math.Ldexp(1, -1022), math.Nextafter(math.Ldexp(1, -1022), 0), 1, math.Nextafter(1, 0), math.Nextafter(2, 0), math.Nextafter(math.Ldexp(1, -1021), 0), 0, 1<<53, 1<<53+2)
	for _, x := range list {
		if !isFinite(x) {
			continue
		}
		x = math.Abs(x)
		next := math.Nextafter(x, inf)
		even := x
		if bitsOf(x)%2 == 1 {
			even = next
		}
		half := halfText(x)
		for _, behind := range []string{"", "0", strings.Repeat("0", 1500)} {
			checkParse(t, half+behind, even)
			checkParse(t, "-"+half+behind, -even)
			checkParse(t, half+behind+"1", next)
		}
		checkParse(t, justBelow(half), x)
	}
}

// halfText is all digits of the number half way between x, which is not below nought, and the float above it (or what would be it, above the greatest), with a point.
func halfText(x float64) string {
	gap := new(big.Rat)
	if x == most {
		gap.SetFloat64(math.Ldexp(1, 971))
	} else {
		gap.SetFloat64(math.Nextafter(x, inf) - x)
	}
	half := gap.Add(new(big.Rat).SetFloat64(x), gap.Quo(gap, big.NewRat(2, 1)))
	s := half.FloatString(1080)
	return strings.TrimRight(s, "0") + "0"
}

// justBelow is a number that is less than that of the text by very little: its last digit that is no 0 is one less, with many 9 behind it.
func justBelow(s string) string {
	i := len(s) - 1
	for s[i] == '0' || s[i] == '.' {
		i--
	}
	b := []byte(s)
	b[i]--
	for j := i + 1; j < len(b); j++ {
		if b[j] == '0' {
			b[j] = '9'
		}
	}
	return string(b) + strings.Repeat("9", 1500)
}

func TestParseBasedHalves(t *testing.T) { // 2.7: by half to even, to the other bases
	r := rand.New(rand.NewSource(3))
	for range 3000 {
		n := new(big.Int).Lsh(big.NewInt(r.Int63()), uint(r.Intn(1000)))
		n.Add(n, big.NewInt(int64(r.Intn(3)-1)))
		n.Abs(n)
		want, _ := new(big.Rat).SetInt(n).Float64()
		checkParse(t, "0x"+n.Text(16), want)
		checkParse(t, "0X000"+strings.ToUpper(n.Text(16)), want)
		checkParse(t, "0o"+n.Text(8), want)
		checkParse(t, "0B"+n.Text(2), want)
	}
	end := new(big.Int).Lsh(big.NewInt(1<<54-1), 970) // from here on numbers become infinite
	below := new(big.Int).Sub(end, big.NewInt(1))
	for base, ahead := range map[int]string{16: "0x", 8: "0o", 2: "0b"} {
		checkParse(t, ahead+end.Text(base), inf)
		checkParse(t, ahead+below.Text(base), most)
		checkParse(t, ahead+"1"+strings.Repeat("0", 1<<20), inf)
		checkParse(t, ahead+strings.Repeat("0", 1<<20)+"1", 1)
		checkParse(t, ahead+strings.Repeat("0", 1<<20), 0)
		checkParse(t, ahead+"1"+strings.Repeat("0", 1<<20)+"g", nan)
		checkParse(t, ahead+strings.Repeat("0", 1<<20)+"-", nan)
	}
	checkParse(t, end.String(), inf)
	checkParse(t, below.String(), most)
}

func TestParseLong(t *testing.T) { // 2.7: texts and exponents of any length
	many := 1 << 20
	zeros := strings.Repeat("0", many)
	far := strconv.Itoa(many)
	checkParse(t, "1"+zeros+"e-"+far, 1)
	checkParse(t, "-"+zeros+"1", -1)
	checkParse(t, "."+zeros+"1e"+strconv.Itoa(many+1), 1)
	checkParse(t, "0."+zeros+"1E+"+strconv.Itoa(many+2), 10)
	checkParse(t, "1"+zeros, inf)
	checkParse(t, "-."+zeros+"1", minus0)
	checkParse(t, "1e"+zeros+"3", 1000)
	checkParse(t, "1e-"+zeros+"3", 0.001)
	checkParse(t, strings.Repeat("9", many)+"e-"+far, 1)
	checkParse(t, strings.Repeat(" ", many)+"5"+strings.Repeat("\u3000", many), 5)
	checkParse(t, "5"+strings.Repeat(" ", many)+"5", nan)
	checkParse(t, zeros+"x", nan)
	for _, n := range []string{"309", "400", "2147483648", "4294967296", "9223372036854775807", "9223372036854775808", "18446744073709551616", "1" + zeros} {
		checkParse(t, "1e"+n, inf)
		checkParse(t, "-1e+"+n, -inf)
		checkParse(t, "0e"+n, 0)
		checkParse(t, "-0e"+n, minus0)
		checkParse(t, "1e-3"+n, 0)
		checkParse(t, "-1e-3"+n, minus0)
	}
	for n := range 700 {
		for _, d := range []string{"1", "9.99", "0.000000000000000000000123", "123456789012345678901234567890"} {
			s := d + "e" + strconv.Itoa(n-350)
			checkParse(t, s, slowParse(s))
		}
	}
}

func TestParseTexts(t *testing.T) { // 2.7: the texts of all kinds of numbers
	for i, x := range numbers() {
		if !isFinite(x) {
			continue
		}
		for _, digits := range []int{-1, i % 30, 17} {
			for _, form := range []byte("efgE") {
				s := strconv.FormatFloat(x, form, digits, 64)
				checkParse(t, s, slowParse(s))
			}
		}
	}
}

func TestParseAnyBytes(t *testing.T) { // 2.7 and R1: whatever the bytes
	r := rand.New(rand.NewSource(4))
	const bytes = "0123456789.eE+-xXoObBafAF_Infity \t\xc2\xa0\xff\xe2\x80\xa8\x00"
	for range 100000 {
		b := make([]byte, r.Intn(12))
		for i := range b {
			b[i] = bytes[r.Intn(len(bytes))]
		}
		core := string(b)
		for again := true; again; {
			before := core
			for _, c := range whites() {
				core = strings.TrimSuffix(strings.TrimPrefix(core, string(c)), string(c))
			}
			again = core != before
		}
		checkParse(t, string(b), slowParse(core))
	}
}

func TestSpaceAndNoughts(t *testing.T) { // 2.15
	space := string(whites())
	for _, s := range []string{"", "0", "-0", "1", "+1", "-1.5e3", ".5", "5.", "0x1f", "0b11", "0o7", "Infinity", "-Infinity", "1e400", "x", "1e", "-", ".", "1 1", "0x", "NaN", "9007199254740993"} {
		want := number.Parse(s)
		for _, text := range []string{" " + s, s + " ", space + s, s + space, space + s + space} {
			checkParse(t, text, want)
		}
	}
	for _, n := range []int{1, 2, 20, 900, 70000} {
		noughts := strings.Repeat("0", n)
		for _, x := range few() {
			if s := number.Text(math.Abs(x)); isFinite(x) {
				checkParse(t, noughts+s, number.Parse(s))
				checkParse(t, "-"+noughts+s, -number.Parse(s))
			}
		}
		for _, ahead := range []string{"0x", "0o", "0b"} {
			checkParse(t, ahead+noughts+"10", number.Parse(ahead+"10"))
		}
		checkParse(t, noughts+".5", 0.5)
		checkParse(t, noughts+"1e5", 1e5)
	}
}
