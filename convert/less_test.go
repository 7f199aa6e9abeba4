package convert_test

// 12.7: which value is less, and who is asked first.

import (
	"slices"
	"testing"

	"cameo/api"
	"cameo/convert"
	"cameo/heap"
)

func TestLessOfPlain(t *testing.T) {
	h := newHeap(t, 0, 0, 1)
	none := undefined()
	for _, x := range []struct{ a, b, ab, ba api.Value }{
		{text("10"), text("9"), yes(), no()}, {text("10"), num(9), no(), yes()}, {text("a"), text("a"), no(), no()}, {text(""), text("a"), yes(), no()}, {text("a"), text("aa"), yes(), no()},
		{text("\uffff"), text("\U00010000"), no(), yes()}, {text("\xed\xa0\xbd"), text("\ue000"), yes(), no()}, {text("\xed\xa0\xbd"), text("\U0001f600"), yes(), no()},
		{text("a"), num(1), none, none}, {text(""), num(1), yes(), no()}, {text(" 2 "), num(10), yes(), no()}, {text("NaN"), text("NaN"), no(), no()}, {text("x"), text("NaN"), no(), yes()},
		{undefined(), num(1), none, none}, {undefined(), undefined(), none, none}, {undefined(), null(), none, none}, {undefined(), text("a"), none, none},
		{null(), num(1), yes(), no()}, {null(), yes(), yes(), no()}, {null(), no(), no(), no()}, {null(), null(), no(), no()}, {null(), text("1"), yes(), no()}, {null(), text("x"), none, none},
		{no(), yes(), yes(), no()}, {yes(), yes(), no(), no()}, {yes(), text("2"), yes(), no()}, {yes(), num(1), no(), no()},
		{num(0), num(below0), no(), no()}, {num(-1), num(below0), yes(), no()}, {num(1), num(1), no(), no()}, {num(1), num(2), yes(), no()}, {num(-endless), num(endless), yes(), no()}, {num(endless), num(endless), no(), no()},
		{num(nan), num(nan), none, none}, {num(nan), num(1), none, none}, {num(nan), text("1"), none, none}, {num(nan), text("x"), none, none}, {num(1), text("1e400"), yes(), no()},
	} {
		for _, left := range []bool{true, false} {
			lessAct(left).is(t, h, 0, x.ab, nil, x.a, x.b)
			lessAct(left).is(t, h, 0, x.ba, nil, x.b, x.a)
		}
	}
	for _, v := range plain() {
		for _, left := range []bool{true, false} {
			lessAct(left).is(t, h, 0, api.Value{}, typeError(), v, symbol(1))
			lessAct(left).is(t, h, 0, api.Value{}, typeError(), symbol(1), v)
		}
	}
}

// pair is a heap with the seers 1 and 2, whose methods a and b end so.
func pair(t *testing.T, k api.Key, a api.Value, aErr error, b api.Value, bErr error) (*heap.Heap, *diary) {
	t.Helper()
	h, d := newHeap(t, 4, 100, 1), &diary{}
	addSeer(t, h, d)
	addSeer(t, h, d)
	lay(t, h, 1, k, open(ending(t, h, d, "a", a, aErr)))
	lay(t, h, 2, k, open(ending(t, h, d, "b", b, bErr)))
	return h, d
}

func asked(o, name, word string) []string {
	return []string{o + " @11 " + o, name + " " + o + ` "` + word + `"`}
}

func TestLessOrder(t *testing.T) {
	fromA, fromB := asked("#1", "a", "number"), asked("#2", "b", "number")
	for _, x := range []struct {
		a, b api.Value
		want api.Value
		err  error
	}{
		{num(1), num(2), yes(), nil}, {num(2), num(1), no(), nil}, {text("10"), text("9"), yes(), nil}, {text("9"), text("10"), no(), nil}, {text("10"), num(9), no(), nil}, {num(nan), num(1), undefined(), nil},
		{symbol(1), num(1), api.Value{}, typeError()}, {num(1), symbol(1), api.Value{}, typeError()}, {symbol(1), text("a"), api.Value{}, typeError()},
	} {
		for left, lines := range map[bool][]string{true: slices.Concat(fromA, fromB), false: slices.Concat(fromB, fromA)} {
			h, d := pair(t, toPrimitive, x.a, nil, x.b, nil)
			lessAct(left).is(t, h, 4, x.want, x.err, ref(1), ref(2))
			if !slices.Equal(d.lines, lines) {
				t.Errorf("12.7: left %v: %v", left, d.lines)
			}
			// One of them is no object: there is no more to ask.
			h, d = pair(t, toPrimitive, x.a, nil, x.b, nil)
			lessAct(left).is(t, h, 2, x.want, x.err, x.a, ref(2))
			lessAct(left).is(t, h, 2, x.want, x.err, ref(1), x.b)
			if !slices.Equal(d.lines, slices.Concat(fromB, fromA)) {
				t.Errorf("12.7: left %v: %v", left, d.lines)
			}
		}
	}
}

// What the first one throws, or stops by, ends it; a symbol is no number, but that is seen behind both.
func TestLessEnds(t *testing.T) {
	fromA, fromB := asked("#1", "a", "number"), asked("#2", "b", "number")
	for _, err := range []error{thrown(num(1)), rangeError(), api.ErrFull} {
		h, d := pair(t, toPrimitive, api.Value{}, err, api.Value{}, thrown(text("b")))
		lessAct(true).is(t, h, 2, api.Value{}, err, ref(1), ref(2))
		lessAct(false).is(t, h, 2, api.Value{}, thrown(text("b")), ref(1), ref(2))
		if !slices.Equal(d.lines, slices.Concat(fromA, fromB)) {
			t.Errorf("12.7: %v", d.lines)
		}
		h, d = pair(t, toPrimitive, num(1), nil, api.Value{}, err)
		lessAct(true).is(t, h, 4, api.Value{}, err, ref(1), ref(2))
		lessAct(false).is(t, h, 2, api.Value{}, err, ref(1), ref(2))
		lessAct(true).is(t, h, 2, api.Value{}, err, symbol(1), ref(2))
		lessAct(false).is(t, h, 2, api.Value{}, err, ref(2), symbol(1))
		if !slices.Equal(d.lines, slices.Concat(fromA, fromB, fromB, fromB, fromB)) {
			t.Errorf("12.7: %v", d.lines)
		}
	}
}

// The first one changes what the second one is.
func TestLessChanges(t *testing.T) {
	h := newHeap(t, 9, 1000, 3)
	a, b := made(t, h, null()), made(t, h, null())
	nine := giving(t, h, num(9))
	change := fn(t, h, api.Op{Code: api.OConst, Val: ref(b)}, api.Op{Code: api.OConst, To: 1, Val: nine}, api.Op{Code: api.OSet, To: 2, A: 0, B: 1, Key: valueOf}, api.Op{Code: api.OConst, To: 3, Val: num(5)}, api.Op{Code: api.OReturn, A: 3})
	lay(t, h, a, valueOf, open(change))
	lay(t, h, b, valueOf, open(giving(t, h, num(1))))
	cost := 2 + 6 + 3 + 2 + 3
	lessAct(false).is(t, h, cost, no(), nil, ref(a), ref(b))
	lay(t, h, b, valueOf, open(giving(t, h, num(1))))
	lessAct(true).is(t, h, cost, yes(), nil, ref(a), ref(b))
}

// One object on both sides is asked twice.
func TestLessOfItself(t *testing.T) {
	h, d := pair(t, toPrimitive, num(1), nil, num(1), nil)
	lessAct(true).is(t, h, 4, no(), nil, ref(1), ref(1))
	if v, err := convert.Add(h, ref(1), ref(1)); v != num(2) || err != nil || len(d.lines) != 8 {
		t.Errorf("12.8: %v, %v, %v", v, err, d.lines)
	}
}
