package symbol

import (
	"strings"

	"cameo/api"
	"cameo/value"
)

// wellKnown is the descriptions of the well-known symbols; that of the symbol n stands at n - 1.
var wellKnown = [api.WellKnown]string{
	"Symbol.asyncIterator",
	"Symbol.hasInstance",
	"Symbol.isConcatSpreadable",
	"Symbol.iterator",
	"Symbol.match",
	"Symbol.matchAll",
	"Symbol.replace",
	"Symbol.search",
	"Symbol.species",
	"Symbol.split",
	"Symbol.toPrimitive",
	"Symbol.toStringTag",
	"Symbol.unscopables",
}

// What stands around a description in a symbol's text.
const (
	opening = "Symbol("
	closing = ")"
)

// symbol is what a registry keeps of a symbol; the text by which it may be known is always its description.
type symbol struct {
	description api.Value
	known       bool
}

// add gives a symbol the next number.
func (r *Registry) add(x symbol) (int, api.Errno) {
	if len(r.symbols) >= api.MaxSyms {
		return 0, api.ErrFull
	}
	r.symbols = append(r.symbols, x)
	return len(r.symbols), api.OK
}

// at is the symbol with a number.
func (r *Registry) at(n int) (symbol, api.Errno) {
	if n < 1 || n > len(r.symbols) {
		return symbol{}, api.ErrRange
	}
	return r.symbols[n-1], api.OK
}

// describes tells whether a value can be a description.
func describes(v api.Value) bool {
	return value.Check(v) == api.OK && (v.Kind == api.KUndefined || v.Kind == api.KStr)
}

// anew is a description whose string is memory of its own, for what is kept as for what is handed out.
func anew(v api.Value) api.Value {
	v.Str = strings.Clone(v.Str)
	return v
}
