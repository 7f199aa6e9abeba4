package records_test

// 17.3: lengths of every sort, lists and keys, up to as many as there may be.

import (
	"math"
	"slices"
	"strconv"
	"testing"

	"cameo/api"
	"cameo/array"
	"cameo/records"
)

// lengths is what a value is as a length.
func lengths() map[api.Value]int64 {
	const most = 1<<53 - 1
	return map[api.Value]int64{
		undefined(): 0, null(): 0, no(): 0, yes(): 1,
		num(0): 0, num(0.9): 0, num(1): 1, num(1.999): 1, num(2.5): 2, num(-0.5): 0, num(-1): 0, num(-1e300): 0, num(-endless): 0,
		num(1023): 1023, num(1024): 1024, num(1024.9): 1024, num(1025): 1025, num(1 << 32): 1 << 32, num(most): most, num(most - 1): most - 1, num(1 << 53): most, num(1e300): most, num(endless): most, num(math.MaxFloat64): most,
		text(""): 0, text("0"): 0, text("3.7"): 3, text(" 2\n"): 2, text("0x10"): 16, text("1e3"): 1000, text("-5"): 0, text("x"): 0, text("Infinity"): most, text("1,2"): 0, text("9007199254740993"): most,
	}
}

func TestLength(t *testing.T) {
	for v, n := range lengths() {
		scene{"17.3: length " + tell(v), func(s stage) act { return lengthOf(s.seer(null(), has("length", v))) }, []string{"get #1 length #1"}, n, nil}.holds(t)
	}
	// These two are keys of no map.
	for _, v := range []api.Value{num(nan), num(below0)} {
		scene{"17.3: length " + tell(v), func(s stage) act { return lengthOf(s.seer(null(), has("length", v))) }, []string{"get #1 length #1"}, 0, nil}.holds(t)
	}
	scene{"17.3: no length", func(s stage) act { return lengthOf(s.seer(null())) }, []string{"get #1 length #1"}, 0, nil}.holds(t)
	for _, x := range []func(int) act{lengthOf, list, keys} {
		scene{"17.3: a symbol as length", func(s stage) act { return x(s.seer(null(), has("length", symbol(1)))) }, []string{"get #1 length #1"}, nil, typeError()}.holds(t)
	}
}

// 17.3: a length may be inherited, told by a getter, or an object that is asked for a number.
func TestLengthAsked(t *testing.T) {
	scene{"17.3: inherited", func(s stage) act {
		return lengthOf(s.seer(ref(s.seer(null(), has("length", num(4))))))
	}, []string{"get #2 length #2", "get #1 length #2"}, 4, nil}.holds(t)
	for v, n := range lengths() {
		scene{"17.3: a getter", func(s stage) act {
			o := s.seer(null())
			lay(s.t, s.h, o, str("length"), got("length", s.ending("length", v, nil)).Desc)
			return lengthOf(o)
		}, []string{"get #1 length #1", "call length #1"}, n, nil}.holds(t)
		asked := []string{"get #1 length #1", "get #2 @11 #2", "get #2 valueOf #2", "call valueOf #2"}
		scene{"17.3: an object", func(s stage) act {
			o, p := s.seer(null()), s.seer(null())
			lay(s.t, s.h, p, str("valueOf"), open(s.ending("valueOf", v, nil)))
			lay(s.t, s.h, o, str("length"), open(ref(p)))
			return lengthOf(o)
		}, asked, n, nil}.holds(t)
	}
	dumb := []string{"get #1 length #1", "get #2 @11 #2", "get #2 valueOf #2", "get #2 toString #2"}
	for _, x := range []func(int) act{lengthOf, list, keys} {
		scene{"17.3: an object that cannot be asked", func(s stage) act {
			o := s.seer(null())
			lay(s.t, s.h, o, str("length"), open(ref(s.seer(null()))))
			return x(o)
		}, dumb, nil, typeError()}.holds(t)
	}
}

// reads is the lines of a list of so many members, of the object 1.
func reads(n int) []string {
	l := []string{"get #1 length #1"}
	for i := range n {
		l = append(l, "get #1 "+strconv.Itoa(i)+" #1")
	}
	return l
}

// 17.3: members of every kind, also where there is nothing; what lies behind the length is not asked for.
func TestList(t *testing.T) {
	values := append(plain(), ref(1), ref(2))
	scene{"17.3: every value", func(s stage) act {
		o := s.seer(null())
		made(s.t, s.h, null())
		for i, v := range values {
			lay(s.t, s.h, o, at(i), open(v))
		}
		lay(s.t, s.h, o, at(len(values)), open(num(99)))
		lay(s.t, s.h, o, str("length"), open(num(float64(len(values))+0.5)))
		return list(o)
	}, reads(len(values)), values, nil}.holds(t)
	scene{"17.3: nothing there", func(s stage) act {
		return list(s.seer(null(), has("1", text("b")), has("01", text("x")), has("length", text("3"))))
	}, reads(3), []api.Value{undefined(), text("b"), undefined()}, nil}.holds(t)
	for _, v := range []api.Value{undefined(), num(0), num(-3), num(nan), text("x"), null(), no()} {
		scene{"17.3: none", func(s stage) act { return list(s.seer(null(), has("length", v), has("0", num(1)))) }, reads(0), []api.Value{}, nil}.holds(t)
		scene{"17.3: none", func(s stage) act { return keys(s.seer(null(), has("length", v), has("0", num(1)))) }, reads(0), []api.Key{}, nil}.holds(t)
	}
}

// 17.3: members may be inherited, and told by getters.
func TestListAsked(t *testing.T) {
	lines := []string{"get #2 length #2", "get #2 0 #2", "get #1 0 #2", "get #2 1 #2", "call one #2", "get #2 2 #2", "get #1 2 #2", "call two #2"}
	build := func(do func(int) act) func(s stage) act {
		return func(s stage) act {
			base := s.seer(null(), has("0", text("a")), has("1", text("hidden")))
			o := s.seer(ref(base), has("length", num(3)))
			lay(s.t, s.h, o, at(1), got("1", s.ending("one", symbol(5), nil)).Desc)
			lay(s.t, s.h, base, at(2), got("2", s.ending("two", text("c"), nil)).Desc)
			return do(o)
		}
	}
	scene{"17.3: asked", build(list), lines, []api.Value{text("a"), symbol(5), text("c")}, nil}.holds(t)
	scene{"17.3: asked", build(keys), lines, []api.Key{str("a"), sym(5), str("c")}, nil}.holds(t)
}

// 17.3: keys are strings and symbols; at what is neither it ends, ahead of asking for more.
func TestKeys(t *testing.T) {
	words := []string{"", "a", "0", "01", "-0", "a", "length", "\xed\xa0\xbd", "\U0001f600"}
	scene{"17.3: keys", func(s stage) act {
		o := s.seer(null(), has("length", num(float64(len(words)+2))))
		for i, w := range words {
			lay(s.t, s.h, o, at(i), open(text(w)))
		}
		lay(s.t, s.h, o, at(len(words)), open(symbol(1)))
		lay(s.t, s.h, o, at(len(words)+1), open(symbol(65536)))
		return keys(o)
	}, reads(len(words) + 2), []api.Key{str(""), str("a"), str("0"), str("01"), str("-0"), str("a"), str("length"), str("\xed\xa0\xbd"), str("\U0001f600"), sym(1), sym(65536)}, nil}.holds(t)
	for _, v := range append(plain(), ref(1)) {
		if v.Kind == api.KStr || v.Kind == api.KSym {
			continue
		}
		for n := range 3 {
			scene{"17.3: no key: " + tell(v), func(s stage) act {
				o := s.seer(null(), has("length", num(3)), has("0", text("a")), has("1", symbol(1)), has("2", text("c")))
				lay(s.t, s.h, o, at(n), open(v))
				return keys(o)
			}, reads(n + 1), nil, typeError()}.holds(t)
		}
	}
}

// 17.3: as many members as there may be, and one more.
func TestListEdge(t *testing.T) {
	for _, n := range []int{1023, 1024} {
		h := newHeap(t, 1, n+1, 1)
		o := made(t, h, null())
		var values []api.Value
		var want []api.Key
		for i := range n {
			w := "w" + strconv.Itoa(i)
			values, want = append(values, text(w)), append(want, str(w))
			lay(t, h, o, at(i), open(text(w)))
		}
		lay(t, h, o, str("length"), open(num(float64(n))))
		list(o).is(t, h, n+1, values, nil)
		h.Refuel(n + 1)
		keys(o).is(t, h, n+1, want, nil)
		for _, x := range []act{list(o), keys(o)} {
			h.Refuel(n)
			x.is(t, h, n, nil, api.ErrFuel)
		}
	}
	for _, v := range []api.Value{num(1025), num(1025.5), num(1 << 32), num(endless), text("1025"), num(1<<53 - 1)} {
		for _, x := range []func(int) act{list, keys} {
			scene{"17.3: too long: " + tell(v), func(s stage) act { return x(s.seer(null(), has("length", v), has("0", num(1)))) }, reads(0), nil, api.ErrLong}.holds(t)
		}
	}
}

// 17.3: what is too long stops: no program can catch it.
func TestTooLongStops(t *testing.T) {
	h := newHeap(t, 9, 100, 9)
	o := made(t, h, null())
	lay(t, h, o, str("length"), open(num(1025)))
	f := addNative(t, h, func(api.Value, []api.Value) (api.Value, error) {
		_, err := records.List(h, ref(o))
		return api.Value{}, err
	})
	body := fn(t, h, api.Op{Code: api.OConst, Val: f}, api.Op{Code: api.OCall, To: 1, A: 0, Catch: true}, api.Op{Code: api.OReturn, A: 1})
	if v, err := h.Call(body.Id, null(), nil); v != (api.Value{}) || err != api.ErrLong {
		t.Errorf("17.3: %v, %v", v, err)
	}
}

// 17.3: the length counts as it was asked first; the members as they are when they are asked for.
func TestListChangedInTheMidst(t *testing.T) {
	h := newHeap(t, 9, 1000, 9)
	o := made(t, h, null())
	// It makes the receiver's length 1, takes 1 away, and lays 2.
	body := fn(t, h, api.Op{Code: api.OThis}, api.Op{Code: api.OConst, To: 1, Val: num(1)}, api.Op{Code: api.OSet, To: 2, A: 0, B: 1, Key: str("length")}, api.Op{Code: api.ODelete, To: 2, A: 0, Key: at(1)}, api.Op{Code: api.OConst, To: 3, Val: text("z")}, api.Op{Code: api.OSet, To: 2, A: 0, B: 3, Key: at(2)}, api.Op{Code: api.OReturn, A: 3})
	for _, p := range []api.Prop{has("length", num(3)), got("0", body), has("1", text("b")), has("2", text("c"))} {
		lay(t, h, o, p.Key, p.Desc)
	}
	cost := 4 + 1 + 7 + 3 + 1 + 3
	list(o).is(t, h, cost, []api.Value{text("z"), undefined(), text("z")}, nil)
	lengthOf(o).is(t, h, 1, 1, nil)
	lay(t, h, o, str("length"), open(num(3)))
	lay(t, h, o, at(1), open(text("b")))
	// Of keys the one that is gone is none.
	keys(o).is(t, h, cost-1, nil, typeError())
	lay(t, h, o, str("length"), open(num(1)))
	keys(o).is(t, h, cost-2, []api.Key{str("z")}, nil)
}

// 17.3: lists of objects of all classes, by their own methods.
func TestListOfEveryClass(t *testing.T) {
	h := zoo(t, 1)
	b, err := array.New(h, null(), 1<<32-1)
	if err != nil {
		t.Fatal(err)
	}
	for o, want := range map[int][]api.Value{1: {}, 2: {}, 3: {}, 4: {text("a"), symbol(3)}, 5: {text("x"), text("y")}, 6: {text("a"), text("b"), text("c")}, 7: {}, 8: {}} {
		h.Refuel(100)
		list(o).is(t, h, len(want)+1, want, nil)
		lengthOf(o).is(t, h, 1, len(want), nil)
	}
	keys(4).is(t, h, 3, []api.Key{str("a"), sym(3)}, nil)
	keys(6).is(t, h, 4, []api.Key{str("a"), str("b"), str("c")}, nil)
	lay(t, h, 8, str("length"), open(num(4)))
	list(8).is(t, h, 5, []api.Value{num(0), num(0), num(0), undefined()}, nil)
	keys(8).is(t, h, 2, nil, typeError())
	lengthOf(b).is(t, h, 1, int64(1<<32-1), nil)
	list(b).is(t, h, 1, nil, api.ErrLong)
	if n, err := records.Length(h, ref(b)); n != 1<<32-1 || err != nil {
		t.Error(n, err)
	}
}

// Lists that are empty are the same, however they are told.
func TestEmptyLists(t *testing.T) {
	h := newHeap(t, 1, 10, 1)
	o := made(t, h, null())
	l, err := records.List(h, ref(o))
	k, wrong := records.Keys(h, ref(o))
	if len(l) != 0 || err != nil || len(k) != 0 || wrong != nil || !slices.Equal(l, nil) {
		t.Error(l, err, k, wrong)
	}
}
