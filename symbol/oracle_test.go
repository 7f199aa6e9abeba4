package symbol_test

// What the chapter's words say, written down a second time, by other means than the package has: a registry is a list that is gone through, and texts are ordered by numbers that are read from their bytes.

import (
	"math/rand"
	"slices"
	"strings"
	"testing"

	"cameo/api"
	"cameo/symbol"
)

// A high surrogate that stands alone, and a low one; behind each other they would be no string.
const (
	high = "\xed\xa0\xbd"
	low  = "\xed\xb8\x80"
)

func undefined() api.Value { return api.Value{Kind: api.KUndefined} }

func text(s string) api.Value { return api.Value{Kind: api.KStr, Str: s} }

func made(t *testing.T, r *symbol.Registry, v api.Value, want int) {
	t.Helper()
	if n, e := r.Make(v); n != want || e != api.OK || r.Count() != n {
		t.Errorf("Make(%.40v): %d, %d, want %d; Count: %d", v, n, e, want, r.Count())
	}
}

func found(t *testing.T, r *symbol.Registry, s string, want int) {
	t.Helper()
	if n, e := r.For(s); n != want || e != api.OK {
		t.Errorf("For(%.40q): %d, %d, want %d", s, n, e, want)
	}
}

func known(t *testing.T, r *symbol.Registry, n int, want string) {
	t.Helper()
	if s, ok, e := r.KeyFor(n); s != want || !ok || e != api.OK {
		t.Errorf("KeyFor(%d): %.40q, %v, %d", n, s, ok, e)
	}
}

func unknown(t *testing.T, r *symbol.Registry, n int) {
	t.Helper()
	if s, ok, e := r.KeyFor(n); s != "" || ok || e != api.OK {
		t.Errorf("KeyFor(%d): %.40q, %v, %d", n, s, ok, e)
	}
}

func told(t *testing.T, r *symbol.Registry, n int, description api.Value, words string) {
	t.Helper()
	if v, e := r.Description(n); v != description || e != api.OK {
		t.Errorf("Description(%d): %.40v, %d", n, v, e)
	}
	if s, e := r.Text(n); s != words || e != api.OK {
		t.Errorf("Text(%d): %.40q, %d", n, s, e)
	}
}

func noSymbol(t *testing.T, r *symbol.Registry, n int) {
	t.Helper()
	if s, ok, e := r.KeyFor(n); s != "" || ok || e != api.ErrRange {
		t.Errorf("KeyFor(%d): %q, %v, %d", n, s, ok, e)
	}
	if v, e := r.Description(n); v != (api.Value{}) || e != api.ErrRange {
		t.Errorf("Description(%d): %v, %d", n, v, e)
	}
	if s, e := r.Text(n); s != "" || e != api.ErrRange {
		t.Errorf("Text(%d): %q, %d", n, s, e)
	}
}

// model is the second reading of a registry.
type model struct {
	rows []line
}

type line struct {
	named bool
	name  string
	known bool
}

func newModel() *model {
	m := &model{}
	for _, s := range strings.Fields("asyncIterator hasInstance isConcatSpreadable iterator match matchAll replace search species split toPrimitive toStringTag unscopables") {
		m.rows = append(m.rows, line{true, "Symbol." + s, false})
	}
	return m
}

func (m *model) clone() *model { return &model{rows: slices.Clone(m.rows)} }

// make and find are given what nothing refuses.
func (m *model) make(v api.Value) int {
	m.rows = append(m.rows, line{v.Kind == api.KStr, v.Str, false})
	return len(m.rows)
}

func (m *model) find(s string) int {
	for i, x := range m.rows {
		if x.known && x.name == s {
			return i + 1
		}
	}
	m.rows = append(m.rows, line{true, s, true})
	return len(m.rows)
}

// known is the texts, each put in ahead of the first one that is greater.
func (m *model) known() []string {
	var l []string
	for _, x := range m.rows {
		if !x.known {
			continue
		}
		at := slices.IndexFunc(l, func(s string) bool { return slices.Compare(row(s), row(x.name)) > 0 })
		if at < 0 {
			at = len(l)
		}
		l = slices.Insert(l, at, x.name)
	}
	return l
}

// row is the units of a string, read from its bytes by their bits alone.
func row(s string) []int {
	var l []int
	for i := 0; i < len(s); {
		b := func(n int) int { return int(s[i+n] & 0x3f) }
		switch c := int(s[i]); {
		case c < 0x80:
			l, i = append(l, c), i+1
		case c < 0xe0:
			l, i = append(l, c&0x1f<<6|b(1)), i+2
		case c < 0xf0:
			l, i = append(l, c&0x0f<<12|b(1)<<6|b(2)), i+3
		default:
			p := (c&0x07<<18 | b(1)<<12 | b(2)<<6 | b(3)) - 0x10000
			l, i = append(l, 0xd800+p/0x400, 0xdc00+p%0x400), i+4
		}
	}
	return l
}

// agree holds all that a registry tells against the model.
func agree(t *testing.T, r *symbol.Registry, m *model) {
	t.Helper()
	if r.Count() != len(m.rows) {
		t.Fatalf("Count: %d, want %d", r.Count(), len(m.rows))
	}
	if got, want := r.Known(), m.known(); !slices.Equal(got, want) {
		t.Fatalf("Known: %q, want %q", got, want)
	}
	for i, x := range m.rows {
		description := undefined()
		if x.named {
			description = text(x.name)
		}
		told(t, r, i+1, description, "Symbol("+x.name+")")
		if x.known {
			known(t, r, i+1, x.name)
		} else {
			unknown(t, r, i+1)
		}
	}
	noSymbol(t, r, 0)
	noSymbol(t, r, len(m.rows)+1)
}

// some is texts so few that they meet again and again: signs at the edges of one, two, three and four bytes, and surrogates alone.
func some(r *rand.Rand) string {
	signs := []string{"a", "b", "\x00", "\x7f", "\u0080", "\u07ff", "\u0800", "\ud7ff", "\ue000", "\uffff", "\U00010000", "\U0010ffff", high, low, "\xed\xa0\x80", "\xed\xbf\xbf"}
	var s string
	for range r.Intn(4) {
		x := signs[r.Intn(len(signs))]
		if isHigh(s) && isLow(x) {
			x = "a"
		}
		s += x
	}
	return s
}

// isHigh tells whether a text ends with a high surrogate alone, isLow whether it begins with a low one.
func isHigh(s string) bool {
	return len(s) >= 3 && s[len(s)-3] == 0xed && s[len(s)-2]&0xf0 == 0xa0
}

func isLow(s string) bool { return len(s) >= 3 && s[0] == 0xed && s[1]&0xf0 == 0xb0 }

// 8.1 to 8.8: registries and their clones, and the second reading of each, at random.
func TestTwoReadings(t *testing.T) {
	bad, wrong := noStrings()[:11], noDescriptions()[:30]
	for seed := range int64(300) {
		rnd := rand.New(rand.NewSource(seed))
		rs, ms := []*symbol.Registry{symbol.New()}, []*model{newModel()}
		for range 60 {
			at := rnd.Intn(len(rs))
			r, m := rs[at], ms[at]
			switch n := rnd.Intn(20); {
			case n < 8:
				s := some(rnd)
				found(t, r, s, m.find(s))
			case n < 13:
				v := text(some(rnd))
				made(t, r, v, m.make(v))
			case n < 15:
				made(t, r, undefined(), m.make(undefined()))
			case n < 16:
				if n, e := r.For(bad[rnd.Intn(len(bad))]); n != 0 || e != api.ErrValue {
					t.Errorf("For: %d, %d", n, e)
				}
			case n < 17:
				if n, e := r.Make(wrong[rnd.Intn(len(wrong))]); n != 0 || e != api.ErrValue {
					t.Errorf("Make: %d, %d", n, e)
				}
			case n < 18 && len(rs) < 4:
				rs, ms = append(rs, r.Clone()), append(ms, m.clone())
			}
		}
		for i := range rs {
			agree(t, rs[i], ms[i])
		}
		if t.Failed() {
			t.Fatalf("seed %d", seed)
		}
	}
}
