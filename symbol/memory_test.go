package symbol_test

// What is handed in is not kept, and what is handed out is new memory (R4).

import (
	"slices"
	"testing"
	"unsafe"

	"cameo/symbol"
)

func shares(a, b string) bool { return unsafe.StringData(a) == unsafe.StringData(b) }

// 8.2, 8.3: the memory of what was handed in may be written over.
func TestNothingHandedInIsKept(t *testing.T) {
	r := symbol.New()
	bytes := []byte("some text")
	s := unsafe.String(&bytes[0], len(bytes))
	made(t, r, text(s), 14)
	found(t, r, s, 15)
	c := r.Clone()
	copy(bytes, "SOME TEXT")
	for _, r := range []*symbol.Registry{r, c} {
		told(t, r, 14, text("some text"), "Symbol(some text)")
		told(t, r, 15, text("some text"), "Symbol(some text)")
		known(t, r, 15, "some text")
		if l := r.Known(); !slices.Equal(l, []string{"some text"}) {
			t.Errorf("Known: %q", l)
		}
		found(t, r, "some text", 15)
		found(t, r, "SOME TEXT", 16)
	}
}

// strings of all that a registry hands out of its symbol 14, which is known by a text.
func handedOut(r *symbol.Registry) []string {
	v, _ := r.Description(14)
	k, _, _ := r.KeyFor(14)
	words, _ := r.Text(14)
	w, _ := symbol.WellKnown(4)
	d, _ := r.Description(4)
	return append([]string{v.Str, k, words, w, d.Str}, r.Known()...)
}

// 8.1, 8.4, 8.5
func TestStringsAreNewMemory(t *testing.T) {
	s := string([]byte("some text"))
	r := symbol.New()
	found(t, r, s, 14)
	found(t, r, string([]byte("other text")), 15)
	all := []string{s}
	for _, x := range []*symbol.Registry{r, r, r.Clone()} {
		for i, got := range handedOut(x) {
			if slices.ContainsFunc(all, func(a string) bool { return shares(a, got) }) {
				t.Errorf("%d: %q is not new", i, got)
			}
			all = append(all, got)
		}
	}
	if t.Failed() {
		return // what is not new may lie where nothing can be written
	}
	// Nor is any of it kept: it may be written over.
	want := handedOut(r)
	for _, a := range all[1:] {
		clear(unsafe.Slice(unsafe.StringData(a), len(a)))
	}
	for _, got := range [][]string{handedOut(r), handedOut(r.Clone())} {
		if !slices.Equal(got, want) {
			t.Errorf("%q, not %q", got, want)
		}
	}
	found(t, r, "some text", 14)
}

// 8.5
func TestKnownIsTheCallers(t *testing.T) {
	r := symbol.New()
	for _, s := range []string{"d", "b", "a", "c", "e"} {
		r.For(s)
	}
	want := []string{"a", "b", "c", "d", "e"}
	one, two := r.Known(), r.Known()
	one = append(one, "junk")
	for i := range one[:cap(one)] {
		one[:cap(one)][i] = "junk"
	}
	if !slices.Equal(two, want) || !slices.Equal(r.Known(), want) || !slices.Equal(r.Clone().Known(), want) {
		t.Errorf("%q, %q", two, r.Known())
	}
}
