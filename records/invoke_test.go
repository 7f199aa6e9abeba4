package records_test

// 17.4: methods are called by their names.

import (
	"testing"

	"cameo/api"
	"cameo/records"
)

// A method is asked of the object, and called with it, and with the args as they are.
func TestInvoke(t *testing.T) {
	for _, args := range [][]api.Value{nil, {}, {undefined()}, {num(1)}, append(plain(), ref(1), ref(2))} {
		line := "call f #1"
		for _, a := range args {
			line += " " + tell(a)
		}
		for _, k := range []api.Key{str("f"), str(""), str("0"), sym(api.SymIterator), sym(65536)} {
			for _, answer := range append(plain(), ref(1), ref(2)) {
				scene{"17.4", func(s stage) act {
					o := s.seer(null())
					lay(s.t, s.h, o, k, open(s.ending("f", answer, nil)))
					return invoke(o, k, args...)
				}, []string{"get #1 " + name(k) + " #1", line}, answer, nil}.holds(t)
			}
		}
	}
}

// A method may be inherited, or told by a getter: the receiver is the object itself.
func TestInvokeAsked(t *testing.T) {
	scene{"17.4: inherited", func(s stage) act {
		base := s.seer(null())
		lay(s.t, s.h, base, str("f"), open(s.ending("f", num(7), nil)))
		return invoke(s.seer(ref(base)), str("f"), text("x"))
	}, []string{"get #3 f #3", "get #1 f #3", `call f #3 "x"`}, num(7), nil}.holds(t)
	scene{"17.4: a getter", func(s stage) act {
		o := s.seer(null())
		f := s.ending("f", ref(o), nil)
		lay(s.t, s.h, o, str("f"), got("f", s.ending("getter", f, nil)).Desc)
		return invoke(o, str("f"), text("x"))
	}, []string{"get #1 f #1", "call getter #1", `call f #1 "x"`}, ref(1), nil}.holds(t)
	for _, err := range ends() {
		scene{"17.4: it ends otherwise", func(s stage) act {
			o := s.seer(null())
			lay(s.t, s.h, o, str("f"), open(s.ending("f", api.Value{}, err)))
			return invoke(o, str("f"))
		}, []string{"get #1 f #1", "call f #1"}, nil, err}.holds(t)
	}
}

// What cannot be called throws, also where there is nothing.
func TestInvokeNothing(t *testing.T) {
	none := func(props ...api.Prop) {
		t.Helper()
		scene{"17.4: nothing to call", func(s stage) act {
			o := s.seer(null(), props...)
			made(s.t, s.h, null())
			return invoke(o, str("f"), num(1))
		}, []string{"get #1 f #1"}, nil, typeError()}.holds(t)
	}
	none()
	none(has("g", num(1)))
	none(got("f", undefined()))
	for _, v := range append(plain(), ref(1)) {
		none(has("f", v))
	}
	none(api.Prop{Key: sym(1), Desc: open(num(1))})
}

// Of functions of operations, and of constructors: what they do, and what it costs.
func TestInvokeBodies(t *testing.T) {
	h := newHeap(t, 9, 1000, 9)
	o := made(t, h, null())
	sum := fn(t, h, api.Op{Code: api.OArg, A: 1}, api.Op{Code: api.OThis, To: 1}, api.Op{Code: api.OSet, To: 2, A: 1, B: 0, Key: str("a")}, api.Op{Code: api.OReturn, A: 0})
	lay(t, h, o, str("f"), open(sum))
	lay(t, h, o, str("c"), open(class(t, h)))
	invoke(o, str("f"), num(1), num(2)).is(t, h, 1+1+4+3, num(2), nil)
	if v, err := h.Get(o, str("a"), null()); v != num(2) || err != nil {
		t.Errorf("17.4: %v, %v", v, err)
	}
	invoke(o, str("f"), num(1)).is(t, h, 1+1+4+3, undefined(), nil)
	invoke(o, str("c"), num(1)).is(t, h, 1+1, undefined(), nil)
	// A function is an object, too, whose methods are called.
	lay(t, h, sum.Id, str("me"), open(fn(t, h, api.Op{Code: api.OThis}, api.Op{Code: api.OReturn})))
	invoke(sum.Id, str("me")).is(t, h, 1+1+2, sum, nil)
	// What was thrown within is thrown, what was done stays done.
	lay(t, h, o, str("t"), open(fn(t, h, api.Op{Code: api.OThis}, api.Op{Code: api.ODelete, To: 1, A: 0, Key: str("a")}, api.Op{Code: api.OThrow, A: 1})))
	invoke(o, str("t")).is(t, h, 1+1+3+1, nil, thrown(yes()))
	if ok, err := h.HasProperty(o, str("a")); ok || err != nil {
		t.Errorf("17.4: %v, %v", ok, err)
	}
}

// The getter may change what the object is; what it told is called all the same.
func TestInvokeChangedInTheMidst(t *testing.T) {
	h := newHeap(t, 9, 1000, 9)
	o := made(t, h, null())
	f := giving(t, h, text("told"))
	getter := fn(t, h, api.Op{Code: api.OThis}, api.Op{Code: api.ODelete, To: 1, A: 0, Key: str("f")}, api.Op{Code: api.OConst, To: 2, Val: f}, api.Op{Code: api.OReturn, A: 2})
	lay(t, h, o, str("f"), api.Desc{Get: getter, Configurable: api.Yes})
	invoke(o, str("f")).is(t, h, 1+1+4+1+1+2, text("told"), nil)
	invoke(o, str("f")).is(t, h, 1, nil, typeError())
}

// Of values that are no objects nobody is asked, though there may be args.
func TestInvokeOfNoObject(t *testing.T) {
	h := newHeap(t, 1, 10, 1)
	made(t, h, null())
	for _, v := range plain() {
		for _, args := range [][]api.Value{nil, {ref(1)}} {
			if x, err := records.Invoke(h, v, str("length"), args); x != (api.Value{}) || !sameError(err, typeError()) || h.Fuel() != 10 {
				t.Errorf("17.4: of %v: %v, %v", v, x, err)
			}
		}
	}
}
