package symbol_test

import (
	"math"
	"slices"
	"strings"
	"testing"

	"cameo/api"
	"cameo/symbol"
)

// The chapter's examples 1 to 4.
func TestExamples(t *testing.T) {
	r := symbol.New()
	if r.Count() != 13 {
		t.Errorf("Count: %d", r.Count())
	}
	told(t, r, 4, text("Symbol.iterator"), "Symbol(Symbol.iterator)")
	unknown(t, r, 4)
	noSymbol(t, r, 14)
	made(t, r, undefined(), 14)
	found(t, r, "a", 15)
	made(t, r, text("a"), 16)
	found(t, r, "a", 15)
	known(t, r, 15, "a")
	unknown(t, r, 16)
	told(t, r, 14, undefined(), "Symbol()")
	told(t, r, 16, text("a"), "Symbol(a)")
	found(t, r, "Symbol.iterator", 17)
	known(t, r, 17, "Symbol.iterator")
	unknown(t, r, 4)
	for _, v := range []api.Value{{Kind: api.KNum, Num: 1}, {Kind: api.KNull}} {
		if n, e := r.Make(v); n != 0 || e != api.ErrValue {
			t.Errorf("Make(%v): %d, %d", v, n, e)
		}
	}
}

// descriptions is those of the well-known symbols by the names that api gives to their numbers.
func descriptions() map[int]string {
	return map[int]string{
		api.SymAsyncIterator:      "Symbol.asyncIterator",
		api.SymHasInstance:        "Symbol.hasInstance",
		api.SymIsConcatSpreadable: "Symbol.isConcatSpreadable",
		api.SymIterator:           "Symbol.iterator",
		api.SymMatch:              "Symbol.match",
		api.SymMatchAll:           "Symbol.matchAll",
		api.SymReplace:            "Symbol.replace",
		api.SymSearch:             "Symbol.search",
		api.SymSpecies:            "Symbol.species",
		api.SymSplit:              "Symbol.split",
		api.SymToPrimitive:        "Symbol.toPrimitive",
		api.SymToStringTag:        "Symbol.toStringTag",
		api.SymUnscopables:        "Symbol.unscopables",
	}
}

// outOfRange is numbers that no symbol of a registry with count symbols has.
func outOfRange(count int) []int {
	return []int{0, -1, -13, count + 1, count + 2, api.MaxSyms + 1, 1 << 32, math.MinInt, math.MaxInt}
}

// 8.1
func TestWellKnown(t *testing.T) {
	want := descriptions()
	if len(want) != api.WellKnown {
		t.Fatalf("%d numbers", len(want))
	}
	for n := 1; n <= api.WellKnown; n++ {
		if s, ok := symbol.WellKnown(n); s != want[n] || !ok {
			t.Errorf("WellKnown(%d): %q, %v", n, s, ok)
		}
	}
	for _, n := range outOfRange(api.WellKnown) {
		if s, ok := symbol.WellKnown(n); s != "" || ok {
			t.Errorf("WellKnown(%d): %q, %v", n, s, ok)
		}
	}
}

// 8.1, 8.4
func TestNew(t *testing.T) {
	r := symbol.New()
	if r.Count() != api.WellKnown || len(r.Known()) != 0 {
		t.Errorf("%d symbols, %q known", r.Count(), r.Known())
	}
	for n, s := range descriptions() {
		told(t, r, n, text(s), "Symbol("+s+")")
		unknown(t, r, n)
	}
	for _, n := range outOfRange(api.WellKnown) {
		noSymbol(t, r, n)
	}
	// One registry knows nothing of another one.
	found(t, r, "a", 14)
	made(t, r, text("b"), 15)
	other := symbol.New()
	if other.Count() != 13 || len(other.Known()) != 0 {
		t.Errorf("%d symbols, %q known", other.Count(), other.Known())
	}
	found(t, other, "b", 14)
	known(t, r, 14, "a")
}

// 8.2, 8.4
func TestMake(t *testing.T) {
	r := symbol.New()
	for i, s := range []string{"", "a", "a", "Symbol.iterator", "Symbol()", "\x00", "\"\n\\", "é\U0001f600", high, low, low + high, "a" + high + "b", "undefined"} {
		made(t, r, text(s), 14+i)
		told(t, r, 14+i, text(s), "Symbol("+s+")")
		unknown(t, r, 14+i)
		noSymbol(t, r, r.Count()+1)
	}
	n := r.Count()
	made(t, r, undefined(), n+1)
	made(t, r, undefined(), n+2)
	for _, x := range []int{n + 1, n + 2} {
		told(t, r, x, undefined(), "Symbol()")
		unknown(t, r, x)
	}
	if l := r.Known(); len(l) != 0 {
		t.Errorf("Known: %q", l)
	}
}

// 8.3, 8.4, 8.7: the symbol of a text is the same each time, and none that was made.
func TestFor(t *testing.T) {
	r := symbol.New()
	texts := []string{"", "a", "A", "a ", "Symbol.iterator", "\x00", "é", "e\u0301", "\U0001f600", high, low, low + high, "undefined"}
	for i, s := range texts {
		made(t, r, text(s), 14+2*i)
		found(t, r, s, 15+2*i)
	}
	for i, s := range texts {
		found(t, r, s, 15+2*i)
		told(t, r, 15+2*i, text(s), "Symbol("+s+")")
		known(t, r, 15+2*i, s)
		unknown(t, r, 14+2*i)
	}
	if r.Count() != 13+2*len(texts) || len(r.Known()) != len(texts) {
		t.Errorf("%d symbols, %q known", r.Count(), r.Known())
	}
	// A text that is known leaves no mark on what is made with it behind.
	made(t, r, text("a"), 14+2*len(texts))
	unknown(t, r, 14+2*len(texts))
	found(t, r, "a", 17)
}

// 8.2, 8.3, 8.6: what is refused, and that it leaves all as it was.
func TestRefusals(t *testing.T) {
	r, m := symbol.New(), newModel()
	found(t, r, "a", 14)
	m.find("a")
	for _, v := range noDescriptions() {
		if n, e := r.Make(v); n != 0 || e != api.ErrValue {
			t.Errorf("Make(%.40v): %d, %d", v, n, e)
		}
		agree(t, r, m)
	}
	for _, s := range noStrings() {
		if n, e := r.For(s); n != 0 || e != api.ErrValue {
			t.Errorf("For(%.40q): %d, %d", s, n, e)
		}
		agree(t, r, m)
	}
	for _, n := range outOfRange(14) {
		noSymbol(t, r, n)
		agree(t, r, m)
	}
	made(t, r, text("b"), 15)
}

// noDescriptions is values that are not well formed, and values that are neither undefined nor a string.
func noDescriptions() []api.Value {
	l := []api.Value{
		{}, {Kind: -1}, {Kind: 8}, {Kind: math.MaxInt}, {Str: "a"}, {Bool: true},
		{Kind: api.KNull}, {Kind: api.KBool}, {Kind: api.KBool, Bool: true}, {Kind: api.KNum}, {Kind: api.KNum, Num: 1}, {Kind: api.KNum, Num: math.NaN()},
		{Kind: api.KSym, Id: 1}, {Kind: api.KSym, Id: 14}, {Kind: api.KRef, Id: 1}, {Kind: api.KSym}, {Kind: api.KRef},
		{Kind: api.KUndefined, Str: "a"}, {Kind: api.KUndefined, Id: 1}, {Kind: api.KUndefined, Bool: true}, {Kind: api.KUndefined, Num: 1}, {Kind: api.KUndefined, Num: math.Copysign(0, -1)},
		{Kind: api.KStr, Str: "a", Id: 1}, {Kind: api.KStr, Str: "a", Bool: true}, {Kind: api.KStr, Str: "a", Num: 1}, {Kind: api.KStr, Num: math.Copysign(0, -1)}, {Kind: api.KStr, Num: math.NaN()},
		{Kind: api.KNull, Str: "a"}, {Kind: api.KNum, Str: "a"}, {Kind: api.KSym, Id: 1, Str: "a"},
	}
	for _, s := range noStrings() {
		l = append(l, text(s))
	}
	return l
}

// noStrings is bytes that are no string, and strings that are too long.
func noStrings() []string {
	return []string{
		"\xff", "a\xff", "\x80", "\xc3", "a\xc3(", "\xc0\x80", "\xe0\x80\x80", "\xf4\x90\x80\x80", "\xed\xa0", high + low, "a" + high + low + "b",
		strings.Repeat("a", api.MaxStr+1), strings.Repeat("é", api.MaxStr/2) + "a", strings.Repeat("\xff", api.MaxStr), strings.Repeat("\xff", api.MaxStr+1),
	}
}

// 8.8: numbers rise, whichever way a symbol is made; 8.7: none is answered twice by Make.
func TestNumbersRise(t *testing.T) {
	r := symbol.New()
	last := r.Count()
	for i := range 200 {
		s := strings.Repeat("x", i)
		n, e := r.Make(text(s))
		if n != last+1 || e != api.OK || r.Count() != n {
			t.Fatalf("Make: %d, %d of %d", n, e, r.Count())
		}
		f, e := r.For(s)
		if f != n+1 || e != api.OK || r.Count() != f {
			t.Fatalf("For: %d, %d of %d", f, e, r.Count())
		}
		last = f
	}
}

// 8.5: what is done to the one is not seen by the other, nor by a clone's clone.
func TestClone(t *testing.T) {
	r, m := symbol.New(), newModel()
	agree(t, r.Clone(), m)
	found(t, r, "a", 14)
	made(t, r, undefined(), 15)
	made(t, r, text("b"), 16)
	m.find("a")
	m.make(undefined())
	m.make(text("b"))
	c := r.Clone()
	agree(t, c, m)
	cm := m.clone()
	// Each gets a symbol of its own under one number, and a text of its own.
	found(t, r, "x", 17)
	m.find("x")
	made(t, c, text("y"), 17)
	cm.make(text("y"))
	agree(t, r, m)
	agree(t, c, cm)
	found(t, c, "x", 18)
	cm.find("x")
	found(t, r, "x", 17)
	found(t, c, "a", 14)
	agree(t, r, m)
	agree(t, c, cm)
	d := c.Clone()
	found(t, d, "z", 19)
	agree(t, c, cm)
	agree(t, r, m)
	if slices.Contains(c.Known(), "z") || !slices.Contains(d.Known(), "z") {
		t.Errorf("%q, %q", c.Known(), d.Known())
	}
	if c == r || d == c {
		t.Error("a clone is its original")
	}
}
