package proxy_test

// 19.10: own keys, which a trap tells as an object with a length.

import (
	"slices"
	"strconv"
	"testing"

	"cameo/api"
	"cameo/array"
)

// keySteps is what OwnPropertyKeys goes through up to the trap's answer, and what follows.
func keySteps(more ...string) []string {
	return append([]string{silent, "get H ownKeys H", "call f H T"}, more...)
}

// members is what records.Keys asks of R up to so many members.
func members(n int) []string {
	l := []string{"get R length R"}
	for i := range n {
		l = append(l, "get R "+strconv.Itoa(i)+" R")
	}
	return l
}

// looked is what the target is asked behind that, if it has these keys.
func looked(keys ...string) []string {
	l := []string{"ext T", "keys T"}
	for _, k := range keys {
		l = append(l, "own T "+k)
	}
	return l
}

// listOf is an object R with a length, and members.
func listOf(s stage, l ...api.Value) int {
	props := []api.Prop{has("length", num(float64(len(l))))}
	for i, v := range l {
		props = append(props, has(strconv.Itoa(i), v))
	}
	return s.seer("R", null(), props...)
}

func texts(l ...string) []api.Value {
	var out []api.Value
	for _, s := range l {
		out = append(out, text(s))
	}
	return out
}

func keyList(l ...string) []api.Key {
	out := []api.Key{}
	for _, s := range l {
		out = append(out, str(s))
	}
	return out
}

// keyScene is the keys of a target with properties, and what a trap tells; want nil: a TypeError.
func keyScene(name string, fixed bool, props []api.Prop, told []api.Value, steps []string, want any) scene {
	x := scene{name: name, steps: steps, want: want, build: func(s stage) act {
		r := listOf(s, told...)
		target := s.seer("T", null(), props...)
		if fixed {
			fix(s.h, target)
		}
		return keysOf(s.trapped(target, "ownKeys", ref(r)))
	}}
	if want == nil {
		x.wrong = typeError()
	}
	return x
}

// 19.10
func TestKeys(t *testing.T) {
	free := []api.Prop{has("a", num(1)), has("b", num(2))}
	mixed := []api.Prop{has("a", num(1)), is("b", shut(num(2))), has("c", num(3)), is("d", accessor(undefined(), undefined(), api.No, api.No))}
	read := func(n int, more ...string) []string { return keySteps(append(members(n), more...)...) }
	scenes(t, []scene{
		keyScene("nothing of nothing", false, nil, nil, read(0, looked()...), keyList()),
		keyScene("something of nothing", false, nil, texts("x"), read(1, looked()...), keyList("x")),
		keyScene("nothing of nothing, not extensible", true, nil, nil, read(0, looked()...), keyList()),
		keyScene("something of nothing, not extensible", true, nil, texts("x"), read(1, looked()...), nil),

		keyScene("nothing", false, free, nil, read(0, looked("a", "b")...), keyList()),
		keyScene("its own, the other way round", false, free, texts("b", "a"), read(2, looked("a", "b")...), keyList("b", "a")),
		keyScene("others", false, free, texts("x", "y", "a"), read(3, looked("a", "b")...), keyList("x", "y", "a")),
		keyScene("not extensible, its own", true, free, texts("b", "a"), read(2, looked("a", "b")...), keyList("b", "a")),
		keyScene("not extensible, one less", true, free, texts("a"), read(1, looked("a", "b")...), nil),
		keyScene("not extensible, one more", true, free, texts("a", "x", "b"), read(3, looked("a", "b")...), nil),
		keyScene("not extensible, another one", true, free, texts("a", "x"), read(2, looked("a", "b")...), nil),
		keyScene("not extensible, nothing", true, free, nil, read(0, looked("a", "b")...), nil),

		keyScene("the fixed ones", false, mixed, texts("d", "b"), read(2, looked("a", "b", "c", "d")...), keyList("d", "b")),
		keyScene("the fixed ones, and others", false, mixed, texts("b", "x", "d", "a"), read(4, looked("a", "b", "c", "d")...), keyList("b", "x", "d", "a")),
		keyScene("without the first fixed one", false, mixed, texts("a", "c", "d"), read(3, looked("a", "b", "c", "d")...), nil),
		keyScene("without the last fixed one", false, mixed, texts("a", "b", "c"), read(3, looked("a", "b", "c", "d")...), nil),
		keyScene("not extensible, all", true, mixed, texts("d", "c", "b", "a"), read(4, looked("a", "b", "c", "d")...), keyList("d", "c", "b", "a")),
		keyScene("not extensible, the fixed ones", true, mixed, texts("b", "d"), read(2, looked("a", "b", "c", "d")...), nil),
		keyScene("not extensible, without a fixed one", true, mixed, texts("a", "b", "c"), read(3, looked("a", "b", "c", "d")...), nil),
		keyScene("not extensible, all, and one more", true, mixed, texts("a", "b", "c", "d", "e"), read(5, looked("a", "b", "c", "d")...), nil),
	})
}

// 19.10: a key that stands twice throws ahead of the target being looked at; so does what is neither a string nor a symbol, ahead of the members behind it.
func TestKeysTwice(t *testing.T) {
	props := []api.Prop{is("a", shut(num(1)))}
	read := func(n int) []string { return keySteps(members(n)...) }
	var l []scene
	for _, fixed := range []bool{false, true} {
		l = append(l,
			keyScene("a string", fixed, props, texts("a", "a"), read(2), nil),
			keyScene("a string far behind", fixed, props, texts("a", "b", "c", "", "b"), read(5), nil),
			keyScene("an empty one", fixed, props, texts("", "a", ""), read(3), nil),
			keyScene("a symbol", fixed, props, []api.Value{symbol(7), text("a"), symbol(7)}, read(3), nil),
			keyScene("thrice", fixed, props, texts("x", "x", "x"), read(3), nil))
		for _, v := range append(plain(), ref(1)) {
			if v.Kind != api.KStr && v.Kind != api.KSym {
				l = append(l, keyScene("no key "+tell(v), fixed, props, []api.Value{text("a"), text("a"), v, text("a")}, read(3), nil))
			}
		}
	}
	scenes(t, l)
	// A string and a symbol, or digits in another writing, are not the same.
	scenes(t, []scene{keyScene("apart", false, props, []api.Value{text("a"), text("1"), symbol(1), text("01"), text("@1"), text("A"), symbol(2)}, keySteps(append(members(7), looked("a")...)...),
		[]api.Key{str("a"), str("1"), sym(1), str("01"), str("@1"), str("A"), sym(2)})})
}

// 19.10: what is no object throws, and so does, or stops, what its length comes to.
func TestKeysOfWhat(t *testing.T) {
	var l []scene
	for _, v := range plain() {
		l = append(l, scene{name: "no list " + tell(v), steps: keySteps(), wrong: typeError(), build: func(s stage) act {
			return keysOf(s.trapped(s.seer("T", null()), "ownKeys", v))
		}})
	}
	long := func(name string, length api.Value, steps []string, wrong error) {
		l = append(l, scene{name: name, steps: keySteps(append([]string{"get R length R"}, steps...)...), want: keyList(), wrong: wrong, build: func(s stage) act {
			return keysOf(s.trapped(s.seer("T", null()), "ownKeys", ref(s.seer("R", null(), has("length", length)))))
		}})
	}
	long("too long", num(1025), nil, api.ErrLong)
	long("endless", num(endless), nil, api.ErrLong)
	long("a symbol as the length", symbol(1), nil, typeError())
	long("a member that is not there", num(1), []string{"get R 0 R"}, typeError())
	for _, v := range []api.Value{undefined(), null(), num(0), num(-5), num(0.9), num(nan), text("x"), text(""), no()} {
		long("no length "+tell(v), v, looked(), nil)
	}
	l = append(l, scene{name: "without a length", steps: keySteps(append(members(0), looked()...)...), want: keyList(), build: func(s stage) act {
		return keysOf(s.trapped(s.seer("T", null()), "ownKeys", ref(s.seer("R", null()))))
	}}, scene{name: "an object as the length", steps: keySteps("get R length R", silent, silent, silent, silent, "get R 0 R", "ext T", "keys T"), want: keyList("k"), build: func(s stage) act {
		// It is asked for a method, which is called, and takes two operations.
		length := ordinary(t, s.h, null(), api.Prop{Key: sym(api.SymToPrimitive), Desc: open(ref(giving(t, s.h, num(1))))})
		return keysOf(s.trapped(s.seer("T", null()), "ownKeys", ref(s.seer("R", null(), has("length", ref(length)), has("0", text("k"))))))
	}})
	scenes(t, l)
}

// 19.10: the target's keys are looked at in their order: indices, strings, symbols, whatever is told.
func TestKeysInOrder(t *testing.T) {
	scenes(t, []scene{{name: "in order", steps: keySteps(append(members(5), looked("1", "2", "b", "a", "@4")...)...), want: []api.Key{str("a"), sym(4), str("2"), str("b"), str("1")}, build: func(s stage) act {
		r := listOf(s, text("a"), symbol(4), text("2"), text("b"), text("1"))
		target := s.fixed("T", null(), has("b", num(1)), has("2", num(1)), api.Prop{Key: sym(4), Desc: shut(num(1))}, has("a", num(1)), is("1", shut(num(1))))
		return keysOf(s.trapped(target, "ownKeys", ref(r)))
	}}})
}

// 19.10: the members of what is told may change the target, which is looked at behind that.
func TestKeysChangedMeanwhile(t *testing.T) {
	build := func(told ...api.Value) func(s stage) act {
		return func(s stage) act {
			target := s.seer("T", null(), has("a", num(1)))
			change := s.doing("V", text("x"), func() {
				lay(t, s.h, target, is("b", shut(num(1))))
				fix(s.h, target)
			})
			r := listOf(s, told...)
			lay(t, s.h, r, got("0", change))
			return keysOf(s.trapped(target, "ownKeys", ref(r)))
		}
	}
	steps := func(n int, keys ...string) []string {
		return keySteps(append(slices.Insert(members(n), 2, "call V R"), looked(keys...)...)...)
	}
	scenes(t, []scene{
		{name: "with what came", steps: steps(3, "a", "b"), wrong: typeError(), build: build(undefined(), text("a"), text("b"))},
		{name: "without it", steps: steps(2, "a", "b"), wrong: typeError(), build: build(undefined(), text("a"))},
	})
}

// 19.10: up to 1024 keys, of targets with as many.
func TestManyKeys(t *testing.T) {
	for _, fixed := range []bool{false, true} {
		for _, n := range []int{100, 1023, 1024, 1025} {
			h := newHeap(t, 60, 1<<20, 9)
			target := ordinary(t, h, null())
			var l []api.Value
			var keys []api.Key
			for i := range n {
				k := strconv.Itoa(n - i)
				lay(t, h, target, is(k, []api.Desc{open(num(1)), shut(num(1))}[i%2]))
				l, keys = append(l, text(k)), append(keys, str(k))
			}
			if fixed {
				fix(h, target)
			}
			told, err := array.Of(h, null(), l)
			made(t, told, err)
			p := of(t, h, target, ordinary(t, h, null(), has("ownKeys", ref(giving(t, h, ref(told))))))
			cost, wrong := 1+1+3+1+n+1+1+n, error(nil)
			if n > 1024 {
				cost, wrong = 1+1+3+1, api.ErrLong
			}
			keysOf(p).is(t, h, cost, keys, wrong)
			// One is left out: a fixed one, or one of a target that is not extensible.
			for _, at := range []int{n - 1, n - 2} {
				if n > 1024 {
					continue
				}
				less, err := array.Of(h, null(), slices.Delete(slices.Clone(l), at, at+1))
				made(t, less, err)
				q := of(t, h, target, ordinary(t, h, null(), has("ownKeys", ref(giving(t, h, ref(less))))))
				var want error
				if fixed || at%2 == 1 {
					want = typeError()
				}
				keysOf(q).is(t, h, cost-1, slices.Delete(slices.Clone(keys), at, at+1), want)
			}
		}
	}
}
