package symbol_test

import (
	"math/rand"
	"slices"
	"testing"

	"cameo/symbol"
)

// rising is texts by their units: a surrogate of a pair, or alone, stands ahead of E000 to FFFF, though its pair's bytes stand behind theirs.
func rising() []string {
	return []string{
		"", "\x00", "\x00a", "1", "10", "2", "A", "Symbol.iterator", "a", "a\x00", "aa", "b", "\x7f", "\u0080", "é", "\u07ff", "\u0800", "\ud7ff",
		"\xed\xa0\x80", "\xed\xa0\x80a", "\U00010000", "\U00010000a", "\U00010001",
		"\xed\xa0\xbd", "\xed\xa0\xbd\x00", "\xed\xa0\xbd\xed\xa0\xbd", "\U0001f600", "\xed\xa0\xbd\ue000",
		"\xed\xaf\xbf", "\U0010ffff", "\U0010ffff\x00", "\xed\xb0\x80", "\xed\xb8\x80", "\xed\xb8\x80\xed\xa0\xbd", "\xed\xbf\xbf", "\ue000", "\ufffd", "\uffff", "\uffff\x00",
	}
}

// 8.5
func TestKnown(t *testing.T) {
	want := rising()
	for seed := range int64(50) {
		rnd := rand.New(rand.NewSource(seed))
		r := symbol.New()
		for _, at := range rnd.Perm(len(want)) {
			if _, e := r.For(want[at]); e != 0 {
				t.Fatalf("For(%q): %d", want[at], e)
			}
			if _, e := r.Make(text("made " + want[at])); e != 0 {
				t.Fatalf("Make: %d", e)
			}
		}
		for _, at := range rnd.Perm(len(want)) {
			r.For(want[at])
		}
		for range 3 {
			if got := r.Known(); !slices.Equal(got, want) {
				t.Fatalf("Known: %q, want %q", got, want)
			}
		}
		if got := r.Clone().Known(); !slices.Equal(got, want) {
			t.Fatalf("a clone's Known: %q, want %q", got, want)
		}
	}
}
