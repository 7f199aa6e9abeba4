package integrity_test

// Programs that run in the midst: what a trap does ahead of its answer, or behind it, to the object, its keys and its prototype, and to others that are still to come.

import (
	"errors"
	"fmt"
	"testing"

	"cameo/api"
	"cameo/call"
	"cameo/heap"
	"cameo/integrity"
	"cameo/key"
	"cameo/proxy"
)

// midst is a heap whose object 1 is the target, with a and b, both open, 2 the handler, 3 the proxy, 4 and 5 further objects. At the turn of a trap, for a key, a program runs.
type midst struct {
	t    *testing.T
	h    *heap.Heap
	runs int
}

func newMidst(t *testing.T) *midst {
	t.Helper()
	m := &midst{t: t, h: newHeap(t, 200, 10000, 20)}
	object(t, m.h, null(), has("a", num(1)), has("b", num(2)))
	object(t, m.h, null())
	proxied(t, m.h, 1, 2)
	object(t, m.h, null(), has("x", num(4)))
	object(t, m.h, null(), has("y", num(5)))
	return m
}

// at is a program that runs once, ahead of what the trap would do, where it is asked for that key (any, if it is empty).
func (m *midst) at(trap, k string, do func()) *midst {
	m.t.Helper()
	on := forwards(m.h, trap)
	lay(m.t, m.h, 2, has(trap, ref(addNative(m.t, m.h, func(this api.Value, l []api.Value) (api.Value, error) {
		if m.turn(l, k) {
			do()
		}
		return on(this, l)
	}))))
	return m
}

// behind is a program that runs once, behind what the trap has done.
func (m *midst) behind(trap, k string, do func()) *midst {
	m.t.Helper()
	on := forwards(m.h, trap)
	lay(m.t, m.h, 2, has(trap, ref(addNative(m.t, m.h, func(this api.Value, l []api.Value) (api.Value, error) {
		v, err := on(this, l)
		if m.turn(l, k) {
			do()
		}
		return v, err
	}))))
	return m
}

func (m *midst) turn(l []api.Value, k string) bool {
	if k != "" {
		if at, _ := key.Of(l[1]); at != str(k) {
			return false
		}
	}
	m.runs++
	return m.runs == 1
}

// does is something that a program does to an object, which must be done.
func (m *midst) does(x act) {
	m.t.Helper()
	if s, err := x.played(m.h); s != "true" || err != nil {
		m.t.Errorf("%v: %s, %v", x, s, err)
	}
}

// comes holds an act of the proxy against what it must come to; the target's properties must be these then.
func (m *midst) comes(x act, want any, wrong error, props ...api.Prop) {
	m.t.Helper()
	answer := fmt.Sprint(want)
	if wrong != nil {
		answer = ""
	}
	if s, err := x.played(m.h); s != answer || !sameError(err, wrong) {
		m.t.Errorf("%v: %s, %v; want %s, %v", x, s, err, answer, wrong)
	}
	if m.runs == 0 {
		m.t.Errorf("%v: no program has run", x)
	}
	if x.name != "IsSealed" && x.name != "IsFrozen" {
		looks(m.t, m.h, 1, bare(false, props...))
	}
}

// A key that is gone when its turn comes: Freeze finds no property there, and goes on; Seal would define a new one, which is refused.
func TestGoneKey(t *testing.T) {
	m := newMidst(t)
	gone := func() { m.does(deletes(1, str("b"))) }
	m.at("getOwnPropertyDescriptor", "a", gone).comes(freeze(3), true, nil, is("a", data(num(1), "e")))

	m = newMidst(t)
	m.at("defineProperty", "a", gone).comes(freeze(3), true, nil, is("a", data(num(1), "e")))

	m = newMidst(t)
	m.at("defineProperty", "a", gone).comes(seal(3), nil, typeError(), is("a", data(num(1), "we")))

	m = newMidst(t)
	m.at("getOwnPropertyDescriptor", "a", gone)
	fix(m.h, 1)
	lay(t, m.h, 1, is("a", api.Desc{Configurable: api.No, Writable: api.No}))
	m.comes(isFrozen(3), true, nil)
	looks(t, m.h, 1, bare(false, is("a", data(num(1), "e"))))

	m = newMidst(t) // the last one: between what is told of it and its definition
	m.at("defineProperty", "b", gone).comes(freeze(3), nil, typeError(), is("a", data(num(1), "e")))

	m = newMidst(t)
	m.at("defineProperty", "b", gone).comes(fixing(ref(3), api.LSealed), nil, typeError(), is("a", data(num(1), "we")))
}

// A key that comes ahead of the keys being told is one of them; none can come later.
func TestNewKey(t *testing.T) {
	for trap, x := range map[string]act{"preventExtensions": freeze(3), "isExtensible": isFrozen(3)} {
		m := newMidst(t)
		m.at(trap, "", func() {
			m.does(defines(1, str("0"), data(num(9), "wec")))
			if trap == "isExtensible" {
				m.does(freeze(1))
			}
		})
		m.comes(x, true, nil, is("a", data(num(1), "e")), is("b", data(num(2), "e")), is("0", data(num(9), "e")))
		looks(t, m.h, 1, bare(false, is("a", data(num(1), "e")), is("b", data(num(2), "e")), is("0", data(num(9), "e"))))
	}
	m := newMidst(t)
	m.at("defineProperty", "a", func() {
		defines(1, str("c"), data(num(9), "wec")).is(t, m.h, 1, false, nil)
	}).comes(seal(3), true, nil, is("a", data(num(1), "we")), is("b", data(num(2), "we")))
}

// What is told of a property is what it is when its turn comes.
func TestOtherSort(t *testing.T) {
	u := undefined()
	m := newMidst(t)
	turns := func(k string) func() { return func() { m.does(defines(1, str(k), api.Desc{Get: u})) } }
	m.at("getOwnPropertyDescriptor", "a", turns("b")).comes(freeze(3), true, nil, is("a", data(num(1), "e")), is("b", accessor(u, u, "e")))

	m = newMidst(t)
	m.at("getOwnPropertyDescriptor", "a", turns("a")).comes(freeze(3), true, nil, is("a", accessor(u, u, "e")), is("b", data(num(2), "e")))

	// Between what is told and the definition: an accessor is defined as read-only data, data as no accessor.
	m = newMidst(t)
	m.at("defineProperty", "a", turns("a")).comes(freeze(3), true, nil, is("a", data(u, "e")), is("b", data(num(2), "e")))

	m = newMidst(t)
	lay(t, m.h, 1, is("a", api.Desc{Get: u}))
	m.at("defineProperty", "a", func() { m.does(defines(1, str("a"), data(num(7), "wec"))) }).comes(freeze(3), true, nil, is("a", data(num(7), "we")), is("b", data(num(2), "e")))
	isFrozen(3).is(t, m.h, 3+3+3, false, nil) // a proxy's trap has lied: nothing follows of it
}

// Keys that are gone behind their being told to the trap: the proxy holds the list against the target.
func TestGoneBehindKeys(t *testing.T) {
	m := newMidst(t)
	m.behind("ownKeys", "", func() { m.does(deletes(1, str("b"))) }).comes(freeze(3), nil, typeError(), has("a", num(1)))
	m = newMidst(t)
	m.at("ownKeys", "", func() { m.does(deletes(1, str("b"))) }).comes(freeze(3), true, nil, is("a", data(num(1), "e")))
}

// A proxy that is revoked in the midst ends the step as it would have, and throws at the next one.
func TestRevokedInTheMidst(t *testing.T) {
	both := []api.Prop{has("a", num(1)), has("b", num(2))}
	for _, trap := range every()[2:] {
		m := newMidst(t)
		m.at(trap, "", func() {
			if e := proxy.Revoke(m.h, 3); e != api.OK {
				t.Error(e)
			}
		})
		props := both
		if trap == "defineProperty" {
			props = []api.Prop{is("a", data(num(1), "e")), both[1]}
		}
		m.comes(freeze(3), nil, typeError(), props...)
	}
	m := newMidst(t)
	m.at("isExtensible", "", func() { m.does(freeze(1)); proxy.Revoke(m.h, 3) })
	m.comes(isFrozen(3), nil, typeError())
	m = newMidst(t) // behind the last step nothing is asked
	m.at("preventExtensions", "", func() { proxy.Revoke(m.h, 3) })
	m.comes(fixing(ref(3), api.LShut), ref(3), nil, both...)
}

// What a program throws, or stops by, is what the call comes to; what has been done stays done.
func TestEndsInTheMidst(t *testing.T) {
	for _, err := range ends() {
		for _, x := range []act{freeze(3), fixing(ref(3), api.LFrozen), harden(ref(3))} {
			h := newHeap(t, 200, 1000, 9)
			object(t, h, null(), has("a", num(1)), has("b", num(2)))
			object(t, h, null())
			proxied(t, h, 1, 2)
			on := forwards(h, "defineProperty")
			lay(t, h, 2, has("defineProperty", ref(addNative(t, h, func(this api.Value, l []api.Value) (api.Value, error) {
				if l[1] == text("b") {
					return api.Value{}, err
				}
				return on(this, l)
			}))))
			if s, wrong := x.played(h); s != "" || !sameError(wrong, err) {
				t.Errorf("%v: %s, %v; want %v", x, s, wrong, err)
			}
			looks(t, h, 1, bare(false, is("a", data(num(1), "e")), has("b", num(2))))
		}
	}
}

// A program that does the same within: the inner one does it, and the outer one finds it done.
func TestWithin(t *testing.T) {
	for _, trap := range every()[2:] {
		m := newMidst(t)
		m.at(trap, "", func() { m.does(freeze(3)) })
		m.comes(freeze(3), true, nil, is("a", data(num(1), "e")), is("b", data(num(2), "e")))
	}
	m := newMidst(t)
	m.at("defineProperty", "a", func() { m.does(freeze(1)) })
	m.comes(seal(3), true, nil, is("a", data(num(1), "e")), is("b", data(num(2), "e")))
	m = newMidst(t)
	m.at("getOwnPropertyDescriptor", "a", func() { m.does(seal(1)) })
	m.comes(freeze(3), true, nil, is("a", data(num(1), "e")), is("b", data(num(2), "e")))
}

// A program that does the same within for ever ends by depth, or by fuel, whichever comes first; the calls themselves are not one deeper.
func TestRoundAndRound(t *testing.T) {
	for fuel := range 200 {
		h := newHeap(t, 200, fuel, 6)
		object(t, h, null(), has("a", num(1)))
		object(t, h, null())
		proxied(t, h, 1, 2)
		within := 0
		lay(t, h, 2, has("preventExtensions", ref(addNative(t, h, func(api.Value, []api.Value) (api.Value, error) {
			within++
			return truth(integrity.Freeze(h, 3))
		}))))
		// Each round is the proxy, the handler's Get at its side, and the Call within: three units, two deeper.
		want := api.ErrFuel
		if fuel >= 10 {
			want = api.ErrDepth
		}
		freeze(3).is(t, h, min(fuel, 10), nil, want)
		if rounds := min(fuel, 10) / 3; within != rounds {
			t.Errorf("fuel %d: %d rounds; want %d", fuel, within, rounds)
		}
		looks(t, h, 1, bare(true, has("a", num(1))))
	}
}

// Behind calls within one another there is less room for what is entered; the call itself takes none.
func TestDepth(t *testing.T) {
	for within := range 4 {
		for depth := max(within, 1); depth < within+4; depth++ {
			h := newHeap(t, 200, 1000, depth)
			object(t, h, null(), has("a", num(1)))
			object(t, h, null())
			proxied(t, h, 1, 2)
			var err, deeper error
			do := func() { _, err = integrity.Freeze(h, 1); _, deeper = integrity.IsFrozen(h, 3) }
			for range within {
				inner := do
				f := addNative(t, h, func(api.Value, []api.Value) (api.Value, error) {
					inner()
					return null(), nil
				})
				do = func() {
					if _, err := h.Call(f, null(), nil); err != nil {
						t.Error(err)
					}
				}
			}
			do()
			want, also := error(nil), error(nil)
			if depth < within+1 {
				want = api.ErrDepth
			}
			if depth < within+2 {
				also = api.ErrDepth
			}
			if err != want || deeper != also {
				t.Errorf("within %d, depth %d: %v, %v; want %v, %v", within, depth, err, deeper, want, also)
			}
		}
	}
}

// Harden goes on with objects as they are when their turn comes: with a prototype, a property, and one less, which they have got since they came into the list.
func TestHardenInTheMidst(t *testing.T) {
	m := newMidst(t)
	f := giving(t, m.h, null())
	m.at("defineProperty", "b", func() {
		m.does(setProto(1, null()))
		m.does(setProto(4, ref(5)))
		m.does(defines(4, str("new"), api.Desc{Get: ref(f)}))
		m.does(deletes(4, str("x")))
	})
	lay(t, m.h, 1, has("a", ref(4)))
	m.comes(harden(ref(3)), []int{3, 4, 5, f}, nil, is("a", data(ref(4), "e")), is("b", data(num(2), "e")))
	looks(t, m.h, 4, api.Shape{Class: api.COrdinary, Proto: ref(5), Props: []api.Prop{is("new", accessor(ref(f), undefined(), ""))}})
	looks(t, m.h, 5, bare(false, is("y", data(num(5), "e"))))
	looks(t, m.h, f, api.Shape{Class: api.CNative, Proto: null()})
}

// A prototype can be another one until the object is not extensible any more: that one is hardened, and it stays.
func TestOtherPrototype(t *testing.T) {
	m := newMidst(t)
	m.at("preventExtensions", "", func() { m.does(setProto(1, ref(4))) })
	if l, err := integrity.Harden(m.h, ref(3)); err != nil || fmt.Sprint(l) != "[3 4]" {
		t.Errorf("21.5: %v, %v", l, err)
	}
	looks(t, m.h, 4, bare(false, is("x", data(num(4), "e"))))
	looks(t, m.h, 1, api.Shape{Class: api.COrdinary, Proto: ref(4), Props: []api.Prop{is("a", data(num(1), "e")), is("b", data(num(2), "e"))}})
	for _, trap := range every()[3:] {
		m := newMidst(t)
		m.at(trap, "", func() {
			setProto(1, ref(4)).is(t, m.h, 1, false, nil)
			setProto(3, null()).is(t, m.h, 3, true, nil) // what it is already
		}).comes(harden(ref(3)), []int{3}, nil, is("a", data(num(1), "e")), is("b", data(num(2), "e")))
	}
}

// A program of a body, which a descriptor's field runs when it is read: it takes the other property away.
func TestBodyInTheMidst(t *testing.T) {
	m := newMidst(t)
	n, err := call.New(m.h, null(), []api.Op{{Code: api.OConst, Val: ref(1)}, {Code: api.ODelete, To: 1, A: 0, Key: str("b")}, {Code: api.OReturn, A: 1}}, false)
	d := object(t, m.h, null(), got("configurable", made(t, n, err)), has("value", num(1)))
	lay(t, m.h, 2, has("getOwnPropertyDescriptor", ref(giving(t, m.h, ref(d)))))
	// 3 to prevent extensions, 3 for the keys; of a 3 (the Call of the trap among them), GetOwnProperty and IsExtensible, 6 and 2 for the descriptor's fields, with a Call, 3 operations and a Delete in the getter; 3 to define it. b is gone then: the trap that tells it all the same goes against the target.
	freeze(3).is(t, m.h, 3+3+(3+2+8+1+3+1)+3+(3+2+8+1+3+1), nil, typeError())
	looks(t, m.h, 1, bare(false, is("a", data(num(1), "e"))))
}

// What is made on the way for the traps' sake is in no list.
func TestHardenWithEveryTrap(t *testing.T) {
	h := newHeap(t, 200, 10000, 9)
	object(t, h, null(), has("z", num(1)))
	object(t, h, ref(1), has("a", ref(1)))
	var lines []string
	p := noting(t, h, 2, &lines)
	if l, err := integrity.Harden(h, ref(p)); err != nil || fmt.Sprint(l) != fmt.Sprint([]int{p, 1}) {
		t.Errorf("21.5: %v, %v", l, err)
	}
	looks(t, h, 1, bare(false, is("z", data(num(1), "e"))))
	looks(t, h, 2, api.Shape{Class: api.COrdinary, Proto: ref(1), Props: []api.Prop{is("a", data(ref(1), "e"))}})
}

// Where there is no room for what a trap is told, it stops there.
func TestNoRoom(t *testing.T) {
	h := newHeap(t, 4, 1000, 9)
	object(t, h, null(), has("a", num(1)))
	object(t, h, null())
	proxied(t, h, 1, 2)
	lay(t, h, 2, has("defineProperty", ref(addNative(t, h, always(yes())))))
	freeze(3).is(t, h, 3+3+3+2, nil, api.ErrFull)
	looks(t, h, 1, bare(false, has("a", num(1))))
}

// The answer is what it is, whatever is thrown within and caught there.
func TestCaughtInTheMidst(t *testing.T) {
	m := newMidst(t)
	m.at("defineProperty", "a", func() {
		_, err := integrity.Fix(m.h, ref(4), 9)
		if err != api.ErrRange {
			t.Error(err)
		}
		var x *api.Thrown
		if _, err := integrity.Freeze(m.h, proxiedRevoked(m)); !errors.As(err, &x) {
			t.Error(err)
		}
	})
	m.comes(freeze(3), true, nil, is("a", data(num(1), "e")), is("b", data(num(2), "e")))
}

func proxiedRevoked(m *midst) int {
	m.t.Helper()
	n := proxied(m.t, m.h, 4, 5)
	proxy.Revoke(m.h, n)
	return n
}
