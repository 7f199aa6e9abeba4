package mirror

import (
	"cameo/api"
	"cameo/heap"
)

// Keys is Object.keys.
func Keys(h *heap.Heap, v api.Value) (api.Value, error) { return listOf(h, v, named(shown(itself))) }

// Values is Object.values.
func Values(h *heap.Heap, v api.Value) (api.Value, error) { return listOf(h, v, named(shown(got))) }

// Entries is Object.entries.
func Entries(h *heap.Heap, v api.Value) (api.Value, error) { return listOf(h, v, named(shown(entry))) }

// Names is Object.getOwnPropertyNames.
func Names(h *heap.Heap, v api.Value) (api.Value, error) { return listOf(h, v, named(itself)) }

// Symbols is Object.getOwnPropertySymbols.
func Symbols(h *heap.Heap, v api.Value) (api.Value, error) { return listOf(h, v, symbolic(itself)) }

// listOf is an array of what is picked of a value, which is made an object first.
func listOf(h *heap.Heap, v api.Value, of pick) (api.Value, error) {
	o, err := Object(h, v)
	if err != nil {
		return api.Value{}, err
	}
	return list(h, o, of)
}
