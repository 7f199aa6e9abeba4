package key_test

import (
	"math"
	"math/rand"
	"strconv"
	"strings"
	"testing"

	"cameo/api"
	"cameo/key"
	"cameo/number"
	"cameo/value"
)

// 4.1

func TestCheck(t *testing.T) {
	for _, r := range rows() {
		if e := key.Check(r.k); e != api.OK {
			t.Errorf("Check(%s): %d", r.text, e)
		}
	}
	for _, k := range wrongs() {
		if e := key.Check(k); e != api.ErrValue {
			t.Errorf("Check(%.40q, %d): %d", k.Str, k.Sym, e)
		}
	}
}

// Every string beside every symbol.
func TestCheckOfAllFields(t *testing.T) {
	longest := strings.Repeat("a", api.MaxStr)
	texts := append(noStrings(), "", "a", "1", "\xED\xA0\xBD", "\U0001F600", longest, longest[3:]+"\xED\xA0\xBD")
	count := 0
	for _, s := range texts {
		for _, n := range []int{math.MinInt, -1 << 32, -65536, -1, 0, 1, 2, 65535, 65536, 65537, 1 << 32, 1<<32 + 1, math.MaxInt} {
			k := api.Key{Str: s, Sym: n}
			want := api.ErrValue
			if well(k) {
				want = api.OK
				count++
			}
			if e := key.Check(k); e != want {
				t.Errorf("Check(%.40q, %d): %d, want %d", s, n, e, want)
			}
		}
	}
	// seven strings, four symbols
	if count != 7+4 {
		t.Errorf("%d keys are well formed", count)
	}
}

func TestLimitsOfStrings(t *testing.T) {
	for _, c := range []struct {
		part string
		n    int
		want api.Errno
	}{
		{"a", api.MaxStr, api.OK}, {"a", api.MaxStr + 1, api.ErrValue}, {"1", api.MaxStr, api.OK}, {"1", api.MaxStr + 1, api.ErrValue},
		{"\xED\xA0\x80", api.MaxStr / 3, api.OK}, {"\xED\xA0\x80", api.MaxStr/3 + 1, api.ErrValue},
		{"\U0001F600", api.MaxStr / 4, api.OK}, {"\U0001F600", api.MaxStr/4 + 1, api.ErrValue},
	} {
		k := str(strings.Repeat(c.part, c.n))
		if e := key.Check(k); e != c.want {
			t.Errorf("Check of %d times %q: %d", c.n, c.part, e)
		}
		if v, e := key.Value(k); e != c.want || (e == api.OK) != (v == api.Value{Kind: api.KStr, Str: k.Str}) {
			t.Errorf("Value of %d times %q: kind %d, %d", c.n, c.part, v.Kind, e)
		}
		if l, e := key.Order([]api.Key{k}); e != c.want || (e == api.OK) != (len(l) == 1 && l[0] == k) {
			t.Errorf("Order of %d times %q: %d, %d", c.n, c.part, len(l), e)
		}
	}
}

func TestErrValue(t *testing.T) {
	good := []api.Key{str("a"), str("1"), sym(1), none}
	for _, k := range wrongs() {
		if v, e := key.Value(k); v != (api.Value{}) || e != api.ErrValue {
			t.Errorf("Value(%.40q, %d): %.40v, %d", k.Str, k.Sym, v, e)
		}
		if s, e := key.Text(k); s != "" || e != api.ErrValue {
			t.Errorf("Text(%.40q, %d): %.40q, %d", k.Str, k.Sym, s, e)
		}
		for _, w := range append(good, k) {
			if n, e := key.Compare(k, w); n != 0 || e != api.ErrValue {
				t.Errorf("Compare(%.40q, %d; %.40q, %d): %d, %d", k.Str, k.Sym, w.Str, w.Sym, n, e)
			}
			if n, e := key.Compare(w, k); n != 0 || e != api.ErrValue {
				t.Errorf("Compare(%.40q, %d; %.40q, %d): %d, %d", w.Str, w.Sym, k.Str, k.Sym, n, e)
			}
		}
		for at := range len(good) + 1 {
			l := append([]api.Key{}, good[:at]...)
			l = append(append(l, k), good[at:]...)
			if out, e := key.Order(l); len(out) != 0 || e != api.ErrValue {
				t.Errorf("Order with %.40q, %d at %d: %d, %d", k.Str, k.Sym, at, len(out), e)
			}
		}
		if out, e := key.Order([]api.Key{k}); len(out) != 0 || e != api.ErrValue {
			t.Errorf("Order of %.40q, %d: %d, %d", k.Str, k.Sym, len(out), e)
		}
	}
}

// 4.2

func TestOf(t *testing.T) {
	num := func(x float64) api.Value { return api.Value{Kind: 4, Num: x} }
	for _, c := range []struct {
		v    api.Value
		want api.Key
	}{
		{api.Value{Kind: 1}, str("undefined")}, {api.Value{Kind: 2}, str("null")}, {api.Value{Kind: 3}, str("false")}, {api.Value{Kind: 3, Bool: true}, str("true")},
		{num(1e21), str("1e+21")}, {num(minus0), str("0")}, {num(0), str("0")}, {num(nan), str("NaN")}, {num(inf), str("Infinity")}, {num(-inf), str("-Infinity")},
		{num(1), str("1")}, {num(-1), str("-1")}, {num(0.5), str("0.5")}, {num(1e-7), str("1e-7")}, {num(4294967294), str("4294967294")}, {num(9007199254740991), str("9007199254740991")}, {num(5e-324), str("5e-324")},
		{num(math.Float64frombits(0xFFF8000000000001)), str("NaN")},
	} {
		if k, e := key.Of(c.v); k != c.want || e != api.OK {
			t.Errorf("Of(%v): %v, %d, want %v", c.v, k, e, c.want)
		}
	}
}

func TestOfRandomNumbers(t *testing.T) {
	r := rand.New(rand.NewSource(1))
	for range 5000 {
		x := math.Float64frombits(r.Uint64())
		want := str(number.Text(x))
		if k, e := key.Of(api.Value{Kind: api.KNum, Num: x}); k != want || e != api.OK {
			t.Errorf("Of(%v): %v, %d", x, k, e)
		}
		if k := key.FromNumber(x); k != want { // 4.4
			t.Errorf("FromNumber(%v): %v", x, k)
		}
	}
}

func TestOfObjects(t *testing.T) {
	for _, n := range []int{1, 2, 13, 65535, 65536} {
		if k, e := key.Of(api.Value{Kind: api.KRef, Id: n}); k != none || e != api.ErrKind {
			t.Errorf("Of the object %d: %v, %d", n, k, e)
		}
	}
}

// What is not well formed is ErrValue, an object too.
func TestOfNoValues(t *testing.T) {
	for _, v := range []api.Value{
		{}, {Kind: -1}, {Kind: 8}, {Kind: math.MaxInt}, {Kind: math.MinInt}, {Str: "a"}, {Id: 1},
		{Kind: 7}, {Kind: 7, Id: -1}, {Kind: 7, Id: 65537}, {Kind: 7, Id: 1, Str: "a"}, {Kind: 7, Id: 1, Bool: true}, {Kind: 7, Id: 1, Num: minus0},
		{Kind: 6}, {Kind: 6, Id: -1}, {Kind: 6, Id: 65537}, {Kind: 6, Id: 1, Str: "a"}, {Kind: 5, Str: "a", Id: 1}, {Kind: 5, Str: "a", Num: 1},
		{Kind: 1, Bool: true}, {Kind: 2, Id: 1}, {Kind: 3, Num: minus0}, {Kind: 4, Num: 1, Str: "1"}, {Kind: 4, Bool: true},
	} {
		if k, e := key.Of(v); k != none || e != api.ErrValue {
			t.Errorf("Of(%v): %v, %d", v, k, e)
		}
	}
	for _, s := range noStrings() {
		if k, e := key.Of(api.Value{Kind: api.KStr, Str: s}); k != none || e != api.ErrValue {
			t.Errorf("Of(%.40q): %.40q, %d", s, k.Str, e)
		}
	}
}

// 4.2 and 4.7

func TestValue(t *testing.T) {
	for _, r := range rows() {
		want := api.Value{Kind: api.KStr, Str: r.k.Str}
		if r.k.Sym != 0 {
			want = api.Value{Kind: api.KSym, Id: r.k.Sym}
		}
		v, e := key.Value(r.k)
		if v != want || e != api.OK {
			t.Errorf("Value(%s): %v, %d", r.text, v, e)
		}
		if k, e := key.Of(v); k != r.k || e != api.OK {
			t.Errorf("Of(Value(%s)): %v, %d", r.text, k, e)
		}
	}
}

func TestEverySymbol(t *testing.T) {
	for n := 1; n <= 65536; n++ {
		v, e := key.Value(sym(n))
		if v != (api.Value{Kind: 6, Id: n}) || e != api.OK {
			t.Fatalf("Value of the symbol %d: %v, %d", n, v, e)
		}
		if k, e := key.Of(v); k != sym(n) || e != api.OK {
			t.Fatalf("Of the symbol %d: %v, %d", n, k, e)
		}
		thereAndBack(t, sym(n), "@"+strconv.Itoa(n))
	}
}

// 4.6 and 4.7

// thereAndBack holds Text against a text, and Parse of it against the key.
func thereAndBack(t *testing.T, k api.Key, text string) {
	if s, e := key.Text(k); s != text || e != api.OK {
		t.Errorf("Text(%.40q, %d): %.40q, %d, want %.40q", k.Str, k.Sym, s, e, text)
	}
	if back, e := key.Parse(text); back != k || e != api.OK {
		t.Errorf("Parse(%.40q): %.40q, %d, %d", text, back.Str, back.Sym, e)
	}
}

func TestText(t *testing.T) {
	for _, r := range rows() {
		thereAndBack(t, r.k, r.text)
	}
	longest := strings.Repeat("a", api.MaxStr)
	thereAndBack(t, str(longest), `"`+longest+`"`)
	nulls := strings.Repeat("\x00", api.MaxStr)
	thereAndBack(t, str(nulls), `"`+strings.Repeat(`\u0000`, api.MaxStr)+`"`)
}

func TestParseOfNoText(t *testing.T) {
	for _, s := range []string{
		"", "a", "1", "0", "-0", "01", "NaN", "Infinity", "-1.5", "1e+21", "undefined", "null", "true", "false", "#1", "#65536", "#", "#0",
		"@", "@0", "@-1", "@+1", "@01", "@65537", "@18446744073709551617", "@1.0", "@1 ", " @1", "@a", "@@1", "@1@1", "\"@1",
		`"`, `"a`, `a"`, `"a""`, `""a"`, ` "a"`, `"a" `, `'a'`, `"\"`, `"\x61"`, `"\u0061"`, `"\u000a"`, `"\uD83D"`, `"\ud83d\ude00"`, `"\u00"`, "\"\n\"", "\"\x7F\"", "\"\xFF\"", "\"\xED\xA0\xBD\"",
		`"` + strings.Repeat("a", api.MaxStr+1) + `"`, strings.Repeat("a", 2*api.MaxStr), strings.Repeat("1", api.MaxStr), strings.Repeat(`"`, api.MaxStr),
	} {
		if k, e := key.Parse(s); k != none || e != api.ErrValue {
			t.Errorf("Parse(%.40q): %.40q, %d, %d", s, k.Str, k.Sym, e)
		}
	}
}

// Of all short texts, those are read that are a string's or a symbol's, and what is read has that text.
func TestParseOfAllShortTexts(t *testing.T) {
	parts := []string{`"`, `\`, "a", "u", "0", "1", "6", "@", "#", "-", " ", "é", `\n`, `\u0000`, `\ud83d`, `\ude00`}
	read := 0
	eachText(parts, 4, func(s string) {
		v, e := value.Parse(s)
		if e != api.OK || s[0] != '"' && s[0] != '@' {
			if k, e := key.Parse(s); k != none || e != api.ErrValue {
				t.Errorf("Parse(%q): %v, %d", s, k, e)
			}
			return
		}
		read++
		thereAndBack(t, api.Key{Str: v.Str, Sym: v.Id}, s)
	})
	if read < 100 {
		t.Errorf("%d texts are read", read)
	}
}

func TestThereAndBackOfRandomKeys(t *testing.T) {
	r := rand.New(rand.NewSource(2))
	for range 20000 {
		k := randomKey(r)
		v, e := key.Value(k)
		want, f := value.Text(v)
		if e != api.OK || f != api.OK {
			t.Errorf("Value(%v): %v, %d, %d", k, v, e, f)
		}
		thereAndBack(t, k, want)
		if back, e := key.Of(v); back != k || e != api.OK {
			t.Errorf("Of(Value(%v)): %v, %d", k, back, e)
		}
	}
}
