package convert_test

// The chapter's examples.

import (
	"testing"

	"cameo/api"
)

func TestExampleObject(t *testing.T) {
	h := newHeap(t, 3, 1000, 1)
	made(t, h, null())
	lay(t, h, 1, valueOf, open(giving(t, h, num(5))))
	lay(t, h, 1, toString, open(giving(t, h, text("a"))))
	o := ref(1)
	// Get of the symbol, of a name, Call, two operations.
	named(t, "Number").is(t, h, 5, num(5), nil, o, null())
	named(t, "String").is(t, h, 5, text("a"), nil, o, null())
	named(t, "Add").is(t, h, 5, num(6), nil, o, num(1))
	named(t, "Add").is(t, h, 5, text("5x"), nil, o, text("x"))
	named(t, "Loose").is(t, h, 5, yes(), nil, o, text("5"))
	named(t, "Key").is(t, h, 5, text("a"), nil, o, null())
}

func TestExampleWithoutAny(t *testing.T) {
	h := newHeap(t, 3, 1000, 1)
	o := ref(made(t, h, null()))
	for _, x := range []string{"Number", "String", "Key", "Index", "Integer", "Length", "Int32", "Uint32"} {
		named(t, x).is(t, h, 3, api.Value{}, typeError(), o, null())
	}
	lay(t, h, 1, toPrimitive, open(giving(t, h, o)))
	named(t, "Number").is(t, h, 4, api.Value{}, typeError(), o, null())
	lay(t, h, 1, toPrimitive, open(num(1)))
	named(t, "Number").is(t, h, 1, api.Value{}, typeError(), o, null())
}

func TestExamplesOfPlain(t *testing.T) {
	h := newHeap(t, 0, 0, 1)
	loose, less, add, index := named(t, "Loose"), named(t, "Less true"), named(t, "Add"), named(t, "Index")
	loose.is(t, h, 0, yes(), nil, null(), undefined())
	loose.is(t, h, 0, no(), nil, null(), num(0))
	loose.is(t, h, 0, yes(), nil, yes(), text("1"))
	loose.is(t, h, 0, yes(), nil, text(""), num(0))
	loose.is(t, h, 0, no(), nil, num(nan), num(nan))
	loose.is(t, h, 0, yes(), nil, symbol(1), symbol(1))
	loose.is(t, h, 0, no(), nil, symbol(1), symbol(2))
	less.is(t, h, 0, yes(), nil, text("10"), text("9"))
	less.is(t, h, 0, no(), nil, text("10"), num(9))
	less.is(t, h, 0, undefined(), nil, undefined(), num(1))
	add.is(t, h, 0, num(1), nil, num(1), null())
	add.is(t, h, 0, num(nan), nil, num(1), undefined())
	add.is(t, h, 0, api.Value{}, typeError(), symbol(1), num(1))
	index.is(t, h, 0, api.Value{}, rangeError(), text("-1"), null())
	index.is(t, h, 0, api.Value{}, rangeError(), num(1<<53), null())
	index.is(t, h, 0, num(0), nil, undefined(), null())
}
