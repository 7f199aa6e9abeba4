package mirror

import (
	"cameo/api"
	"cameo/heap"
	"cameo/units"
)

// class is what an object is; 0 of what is no object.
func class(h *heap.Heap, v api.Value) int {
	if v.Kind != api.KRef {
		return 0
	}
	c, _ := h.Class(v.Id)
	return c
}

// word is what a value that is no object is called.
func word(kind int) string {
	switch kind {
	case api.KUndefined:
		return "Undefined"
	case api.KNull:
		return "Null"
	case api.KBool:
		return "Boolean"
	case api.KNum:
		return "Number"
	case api.KStr:
		return "String"
	}
	return "Symbol"
}

// builtin is what an object is called that says nothing else of itself.
func builtin(h *heap.Heap, v api.Value) (string, error) {
	is, err := IsArray(h, v)
	if err != nil {
		return "", err
	}
	c := class(h, v)
	switch {
	case is:
		return "Array", nil
	case c == api.CArguments:
		return "Arguments", nil
	case h.Callable(v):
		return "Function", nil
	case c == api.CString:
		return "String", nil
	}
	return "Object", nil
}

// inBrackets is a word as a tag, or throws where that is too long. A word that is a string leaves units.Concat no other reason to refuse it.
func inBrackets(word string) (string, error) {
	s, e := units.Concat("[object ", word)
	if e == api.OK {
		s, e = units.Concat(s, "]")
	}
	if e != api.OK {
		return "", &api.Thrown{Kind: api.XRange}
	}
	return s, nil
}
