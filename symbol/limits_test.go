package symbol_test

import (
	"slices"
	"strconv"
	"strings"
	"testing"

	"cameo/api"
	"cameo/symbol"
)

// filled is a registry that has as many symbols as are asked for; the symbol 14 is known by a.
func filled(t *testing.T, count int) *symbol.Registry {
	t.Helper()
	r := symbol.New()
	found(t, r, "a", 14)
	for n := 15; n <= count; n++ {
		if got, e := r.Make(undefined()); got != n || e != api.OK {
			t.Fatalf("Make: %d, %d, want %d", got, e, n)
		}
	}
	return r
}

// 8.2, 8.3, 8.6: the last symbol is made, and behind it none; what is wrong is refused ahead of that, and what is known is found.
func TestFull(t *testing.T) {
	r := filled(t, api.MaxSyms-1)
	last := r.Clone()
	made(t, r, text("b"), api.MaxSyms)
	found(t, last, "b", api.MaxSyms)
	for _, r := range []*symbol.Registry{r, last, last.Clone()} {
		knownAhead := r.Known()
		for range 2 {
			for _, v := range []api.Value{undefined(), text(""), text("a"), text("b"), text(strings.Repeat("a", api.MaxStr))} {
				if n, e := r.Make(v); n != 0 || e != api.ErrFull {
					t.Errorf("Make(%.40v): %d, %d", v, n, e)
				}
			}
			for _, s := range []string{"", "c", "Symbol.iterator", high, strings.Repeat("a", api.MaxStr)} {
				if n, e := r.For(s); n != 0 || e != api.ErrFull {
					t.Errorf("For(%.40q): %d, %d", s, n, e)
				}
			}
		}
		for _, v := range noDescriptions() {
			if n, e := r.Make(v); n != 0 || e != api.ErrValue {
				t.Errorf("Make(%.40v): %d, %d", v, n, e)
			}
		}
		for _, s := range noStrings() {
			if n, e := r.For(s); n != 0 || e != api.ErrValue {
				t.Errorf("For(%.40q): %d, %d", s, n, e)
			}
		}
		found(t, r, "a", 14)
		told(t, r, api.MaxSyms, text("b"), "Symbol(b)")
		told(t, r, api.MaxSyms-1, undefined(), "Symbol()")
		noSymbol(t, r, api.MaxSyms+1)
		if r.Count() != api.MaxSyms || !slices.Equal(r.Known(), knownAhead) {
			t.Errorf("%d symbols, %q, not %q", r.Count(), r.Known(), knownAhead)
		}
	}
	found(t, last, "b", api.MaxSyms)
	known(t, last, api.MaxSyms, "b")
	unknown(t, r, api.MaxSyms)
	if n, e := r.For("b"); n != 0 || e != api.ErrFull {
		t.Errorf("For: %d, %d", n, e)
	}
}

// 8.3, 8.5: a registry may be full of texts that are known.
func TestFullOfTexts(t *testing.T) {
	r := symbol.New()
	for n := api.WellKnown + 1; n <= api.MaxSyms; n++ {
		if got, e := r.For(strconv.Itoa(n)); got != n || e != api.OK {
			t.Fatalf("For: %d, %d, want %d", got, e, n)
		}
	}
	for n := api.WellKnown + 1; n <= api.MaxSyms; n++ {
		if got, e := r.For(strconv.Itoa(n)); got != n || e != api.OK {
			t.Fatalf("For again: %d, %d, want %d", got, e, n)
		}
	}
	l := r.Known()
	if len(l) != api.MaxSyms-api.WellKnown || !slices.IsSorted(l) || len(slices.Compact(l)) != api.MaxSyms-api.WellKnown {
		t.Errorf("%d texts", len(l))
	}
}

// 8.2, 8.3, 8.4: descriptions of up to MaxStr bytes; of the longest ones there is no text.
func TestLongDescriptions(t *testing.T) {
	r := symbol.New()
	for _, c := range []struct {
		s  string
		ok bool
	}{
		{strings.Repeat("a", api.MaxStr-9), true},
		{strings.Repeat("a", api.MaxStr-8), true},
		{strings.Repeat("é", api.MaxStr/2-4), true},
		{strings.Repeat(high, api.MaxStr/3-3) + "a", true},
		{strings.Repeat("a", api.MaxStr-7), false},
		{strings.Repeat("é", api.MaxStr/2-4) + "a", false},
		{strings.Repeat("a", api.MaxStr-1), false},
		{strings.Repeat("a", api.MaxStr), false},
		{strings.Repeat("\U0001f600", api.MaxStr/4), false},
	} {
		n := r.Count()
		made(t, r, text(c.s), n+1)
		found(t, r, c.s, n+2)
		found(t, r, c.s, n+2)
		unknown(t, r, n+1)
		known(t, r, n+2, c.s)
		for _, x := range []int{n + 1, n + 2} {
			if v, e := r.Description(x); v != text(c.s) || e != api.OK {
				t.Errorf("Description of %d bytes: %.40v, %d", len(c.s), v, e)
			}
			want, e := "Symbol("+c.s+")", api.OK
			if !c.ok {
				want, e = "", api.ErrLong
			}
			if s, got := r.Text(x); s != want || got != e {
				t.Errorf("Text of %d bytes: %.40q, %d", len(c.s), s, got)
			}
		}
		if r.Count() != n+2 {
			t.Errorf("Count: %d", r.Count())
		}
	}
}
