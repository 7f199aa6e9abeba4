package key

import (
	"cmp"
	"slices"
	"strings"

	"cameo/api"
	"cameo/units"
)

// Kinds of keys, in the order in which they stand.
const (
	index = iota
	chars
	symbol
)

// kindOf is what a key is, and the number of an array index.
func kindOf(k api.Key) (int, uint32) {
	if k.Sym != 0 {
		return symbol, 0
	}
	if n, ok := Index(k.Str); ok {
		return index, n
	}
	return chars, 0
}

// asValue is the value that a key is. A symbol that has a string too keeps it, so that the value is well formed just if the key is.
func asValue(k api.Key) api.Value {
	if k.Sym != 0 {
		return api.Value{Kind: api.KSym, Id: k.Sym, Str: k.Str}
	}
	return api.Value{Kind: api.KStr, Str: k.Str}
}

// anew is a key as it is handed out: its string is new memory.
func anew(k api.Key) api.Key { return api.Key{Str: strings.Clone(k.Str), Sym: k.Sym} }

// upTo is the number whose digits s is, and true, if it is not above most, which is far below what 64 bits hold: one digit too many is seen ahead of any overflow.
func upTo(most int64, s string) (int64, bool) {
	if s == "" || s[0] == '0' && s != "0" {
		return 0, false
	}
	var n int64
	for i := range len(s) {
		if s[i] < '0' || s[i] > '9' {
			return 0, false
		}
		n = 10*n + int64(s[i]-'0')
		if n > most {
			return 0, false
		}
	}
	return n, true
}

// compare is the order of two keys that are well formed.
func compare(a, b api.Key) int {
	kindA, indexA := kindOf(a)
	kindB, indexB := kindOf(b)
	if kindA != kindB {
		return cmp.Compare(kindA, kindB)
	}
	switch kindA {
	case index:
		return cmp.Compare(indexA, indexB)
	case chars:
		n, _ := units.Compare(a.Str, b.Str)
		return n
	}
	return cmp.Compare(a.Sym, b.Sym)
}

// ordered is keys that are well formed, kind by kind. An array index is told by its number alone, so that the numbers are sorted, and become keys again.
func ordered(l []api.Key) []api.Key {
	var indices []uint32
	var strs, syms []api.Key
	for _, k := range l {
		switch kind, n := kindOf(k); kind {
		case index:
			indices = append(indices, n)
		case chars:
			strs = append(strs, anew(k))
		case symbol:
			syms = append(syms, k)
		}
	}
	slices.Sort(indices)
	out := make([]api.Key, 0, len(l))
	for _, n := range indices {
		out = append(out, FromIndex(n))
	}
	return append(append(out, strs...), syms...)
}
