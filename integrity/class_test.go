package integrity_test

// 21.1 to 21.4 and 21.6 of objects of every class.

import (
	"slices"
	"testing"

	"cameo/api"
	"cameo/args"
	"cameo/array"
	"cameo/heap"
	"cameo/namespace"
	"cameo/typed"
)

// fixedTo is what an object must tell once it is sealed, or frozen.
func (x told) fixedTo(frozen bool) told {
	l := slices.Clone(x.descs)
	for i, d := range l {
		l[i].Configurable = api.No
		if frozen && !isAccessor(d) {
			l[i].Writable = api.No
		}
	}
	return told{x.proto, x.keys, l, x.errs}
}

func sameTold(a, b told) bool {
	return sameValue(a.proto, b.proto) && slices.Equal(a.keys, b.keys) && slices.EqualFunc(a.descs, b.descs, sameDesc) && slices.EqualFunc(a.errs, b.errs, sameError)
}

// asked is how many steps IsSealed or IsFrozen has to take of an object that is not extensible, and its answer.
func (x told) asked(frozen bool) (int, bool) {
	for i, d := range x.descs {
		if d.Configurable == api.Yes || frozen && d.Writable == api.Yes {
			return 2 + i + 1, false
		}
	}
	return 2 + len(x.descs), true
}

// Of each object Seal and Freeze answer true, and cost a step, a step, and one or two for each key; what it tells then is what it told, but fixed.
func TestEveryClass(t *testing.T) {
	for _, s := range sorts() {
		for _, frozen := range []bool{false, true} {
			w := newWorld(t, 1000, 9)
			o := w.n[s.name]
			before, x, is, each := tells(w.h, o), seal(o), isSealed(o), 1
			if frozen {
				x, is, each = freeze(o), isFrozen(o), 2
			}
			free, _ := w.h.IsExtensible(o)
			if cost, answer := before.asked(frozen); free {
				is.stays(t, w.h, 1, false, nil)
			} else {
				is.stays(t, w.h, cost, answer, nil)
			}
			for range 2 {
				x.is(t, w.h, 2+each*s.keys, true, nil)
				if after := tells(w.h, o); len(before.keys) != s.keys || !sameTold(after, before.fixedTo(frozen)) {
					t.Errorf("%v: %s told %v, and now %v", x, s.name, before, after)
				}
				is.stays(t, w.h, 2+s.keys, true, nil)
				isExt(o).stays(t, w.h, 1, false, nil)
			}
			cost, answer := tells(w.h, o).asked(true)
			isFrozen(o).stays(t, w.h, cost, answer, nil)
			isSealed(o).stays(t, w.h, 2+s.keys, true, nil)
		}
	}
}

// The same by Fix and Fixed, of all levels.
func TestEveryClassByLevel(t *testing.T) {
	for _, s := range sorts() {
		for level, cost := range map[int]int{api.LShut: 1, api.LSealed: 2 + s.keys, api.LFrozen: 2 + 2*s.keys} {
			w := newWorld(t, 1000, 9)
			o := w.n[s.name]
			before := tells(w.h, o)
			fixing(ref(o), level).is(t, w.h, cost, ref(o), nil)
			if level != api.LShut {
				before = before.fixedTo(level == api.LFrozen)
			}
			if after := tells(w.h, o); !sameTold(after, before) {
				t.Errorf("21.4: %s, level %d: it tells %v; want %v", s.name, level, after, before)
			}
			fixedness(ref(o), api.LShut).stays(t, w.h, 1, true, nil)
			for _, frozen := range []bool{false, true} {
				cost, answer := before.asked(frozen)
				fixedness(ref(o), api.LSealed+count(frozen)).stays(t, w.h, cost, answer, nil)
			}
		}
	}
}

// count is 1 of what is frozen, and 0 of what is but sealed.
func count(b bool) int {
	if b {
		return 1
	}
	return 0
}

// With each fuel that is too little, Freeze and Seal leave an object that is not extensible, of which a beginning of the keys is fixed (21.6).
func TestEveryClassWithLessFuel(t *testing.T) {
	for _, s := range sorts() {
		for _, frozen := range []bool{false, true} {
			each := 1 + count(frozen)
			for fuel := range 2 + each*s.keys {
				w := newWorld(t, fuel, 9)
				o, x := w.n[s.name], seal(w.n[s.name])
				if frozen {
					x = freeze(o)
				}
				free := shapeOf(t, w.h, o).Extensible
				before := tells(w.h, o)
				x.is(t, w.h, fuel, nil, api.ErrFuel)
				want := told{before.proto, before.keys, slices.Clone(before.descs), before.errs}
				if fuel >= 2 {
					n := (fuel - 2) / each
					copy(want.descs[:n], before.fixedTo(frozen).descs)
				}
				if after := tells(w.h, o); !sameTold(after, want) {
					t.Errorf("21.6: %v with fuel %d: it tells %v; want %v", x, fuel, after, want)
				}
				if got := shapeOf(t, w.h, o).Extensible; got != (free && fuel == 0) {
					t.Errorf("21.6: %v with fuel %d: extensible: %v", x, fuel, got)
				}
			}
		}
	}
}

// attempts is what somebody may try with an object of any class.
func attempts(h *heap.Heap, o int, k api.Key) []act {
	l := []act{setProto(o, null()), setProto(o, ref(1)), setProto(o, ref(o)), prevent(o), deletes(o, k), seal(o), freeze(o), fixing(ref(o), api.LSealed)}
	for _, v := range []api.Value{num(7), num(0), num(3), text("x"), text("a"), undefined(), ref(1), ref(o)} {
		l = append(l, sets(o, k, v, ref(o)), sets(o, k, v, ref(1)), defines(o, k, api.Desc{Value: v}), defines(o, k, data(v, "wec")), defines(o, k, data(v, "")))
	}
	for _, d := range []api.Desc{{Writable: api.Yes}, {Enumerable: api.Yes}, {Enumerable: api.No}, {Configurable: api.Yes}, {Get: undefined()}, {Set: undefined()}, {Writable: api.No}, {}} {
		l = append(l, defines(o, k, d))
	}
	return l
}

// Whatever is tried, what a frozen object tells is the same ever after; of a sealed one its keys, their Configurable and its prototype are (21.6).
func TestEveryClassForEver(t *testing.T) {
	for _, s := range sorts() {
		for _, x := range []func(o int) act{seal, freeze} {
			w := newWorld(t, 1<<30, 9)
			o := w.n[s.name]
			x(o).played(w.h)
			before := tells(w.h, o)
			for _, k := range append(slices.Clone(before.keys), str("new"), str("3"), str("9"), str("-0"), str("1.5"), sym(9)) {
				for _, y := range attempts(w.h, o, k) {
					y.played(w.h)
					w.parameters(o)
					if x(0).name == "Freeze" {
						w.same(s.name, y, before, tells(w.h, o))
					} else {
						w.kept(s.name, y, before, tells(w.h, o))
					}
				}
			}
		}
	}
}

// parameters changes what may be behind an object: parameters, bytes.
func (w world) parameters(o int) {
	names, _ := args.Names(w.h, o)
	for i, name := range names {
		args.SetSlot(w.h, o, name, num(float64(100+i)))
	}
	typed.Lay(w.h, w.n["buffer"], 0, []byte{1, 2, 3, 4, 5, 6, 7, byte(o)})
	typed.Detach(w.h, w.n["gone"])
}

func (w world) same(name string, x act, before, after told) {
	w.t.Helper()
	if !sameTold(before, after) {
		w.t.Fatalf("21.6: %v: %s, which was frozen, told %v, and now %v", x, name, before, after)
	}
}

func (w world) kept(name string, x act, before, after told) {
	w.t.Helper()
	l := slices.EqualFunc(before.descs, after.descs, func(a, b api.Desc) bool { return a.Configurable == api.No && b.Configurable == api.No })
	if !sameValue(before.proto, after.proto) || !slices.Equal(before.keys, after.keys) || !l {
		w.t.Fatalf("21.6: %v: %s, which was sealed, told %v, and now %v", x, name, before, after)
	}
}

// An array that is frozen can be neither longer nor shorter, nor have another element; one that is sealed has a length that is another one, as long as no element is in the way.
func TestArrays(t *testing.T) {
	h := newHeap(t, 4, 1000, 9)
	of := func(l ...api.Value) int {
		t.Helper()
		n, err := array.Of(h, null(), l)
		return made(t, n, err)
	}
	length := func(o int, want uint32) {
		t.Helper()
		if n, e := array.Length(h, o); n != want || e != api.OK {
			t.Errorf("the length of %d is %d, %v; want %d", o, n, e, want)
		}
	}
	o, p := of(num(1), num(2)), of(num(1), num(2))
	freeze(o).is(t, h, 8, true, nil)
	for _, x := range []act{sets(o, str("0"), num(9), ref(o)), sets(o, str("2"), num(9), ref(o)), defines(o, str("length"), api.Desc{Value: num(3)}), defines(o, str("length"), api.Desc{Value: num(1)}), deletes(o, str("1"))} {
		if s, err := x.played(h); s != "false" || err != nil {
			t.Errorf("21.6: %v: %s, %v", x, s, err)
		}
	}
	length(o, 2)
	seal(p).is(t, h, 5, true, nil)
	sets(p, str("0"), num(9), ref(p)).is(t, h, 3, true, nil)
	sets(p, str("2"), num(9), ref(p)).is(t, h, 3, false, nil)
	defines(p, str("length"), api.Desc{Value: num(5)}).is(t, h, 1, true, nil)
	length(p, 5)
	defines(p, str("length"), api.Desc{Value: num(1)}).is(t, h, 1, false, nil)
	length(p, 2)
	looks(t, h, p, api.Shape{Class: api.CArray, Proto: null(), Props: []api.Prop{is("length", data(num(2), "w")), is("0", data(num(9), "we")), is("1", data(num(2), "we"))}})
}

// An array whose length is read-only, and one with an element that is not configurable, are fixed like others.
func TestArraysWithFixedParts(t *testing.T) {
	w := newWorld(t, 1000, 9)
	for name, want := range map[string][]api.Prop{
		"short array":     {is("length", data(num(3), "")), is("0", data(num(7), "e")), is("1", data(text("x"), "e")), is("2", data(ref(1), "e"))},
		"described array": {is("length", data(num(3), "")), is("0", data(num(7), "e")), is("1", data(text("x"), "e")), is("2", accessor(undefined(), undefined(), ""))},
		"long array":      {is("length", data(num(api.MaxLength), "")), is("4294967294", data(num(1), "e")), is("3", data(num(2), "e"))},
	} {
		o := w.n[name]
		freeze(o).is(t, w.h, 2+2*len(want), true, nil)
		looks(t, w.h, o, api.Shape{Class: api.CArray, Proto: ref(1), Props: want})
	}
}

// A mapped arguments object has, once it is frozen, what its parameters were then; as long as it is but sealed, it goes along with them.
func TestMapped(t *testing.T) {
	w := newWorld(t, 1000, 9)
	o := w.n["mapped"]
	slot := func(name string, x float64) {
		t.Helper()
		if e := args.SetSlot(w.h, o, name, num(x)); e != api.OK {
			t.Fatal(e)
		}
	}
	tied := func(want ...string) {
		t.Helper()
		for i, s := range want {
			if name, ok, e := args.Linked(w.h, o, i); name != s || ok != (s != "") || e != api.OK {
				t.Errorf("%d is tied to %q, %v, %v; want %q", i, name, ok, e, s)
			}
		}
	}
	slot("a", 11)
	seal(o).is(t, w.h, 7, true, nil)
	tied("a", "b", "")
	slot("b", 12)
	gets(o, str("0"), null()).is(t, w.h, 1, num(11), nil)
	gets(o, str("1"), null()).is(t, w.h, 1, num(12), nil)
	isSealed(o).is(t, w.h, 7, true, nil)
	w.h.Refuel(2 + 2)
	freeze(o).is(t, w.h, 4, nil, api.ErrFuel) // the index 0 alone
	w.h.Refuel(1000)
	tied("", "b", "")
	slot("a", 21)
	slot("b", 22)
	gets(o, str("0"), null()).is(t, w.h, 1, num(11), nil)
	gets(o, str("1"), null()).is(t, w.h, 1, num(22), nil)
	freeze(o).is(t, w.h, 12, true, nil)
	tied("", "", "")
	slot("a", 31)
	slot("b", 32)
	base, f := ref(1), ref(w.n["function"])
	looks(t, w.h, o, api.Shape{Class: api.CArguments, Proto: base, Props: []api.Prop{is("0", data(num(11), "e")), is("1", data(num(22), "e")), is("2", data(base, "e")), is("length", data(num(3), "")), is("callee", data(f, ""))}})
	if v, e := args.Slot(w.h, o, "b"); v != num(32) || e != api.OK {
		t.Errorf("its parameter is %v, %v", v, e)
	}
}

// The elements of a typed array are always configurable and writable: it is not extensible any more, and a TypeError is thrown at the first one. They stand ahead of all other keys.
func TestTyped(t *testing.T) {
	for x, cost := range map[string]int{"Seal": 3, "Freeze": 4} {
		w := newWorld(t, 1000, 9)
		o := w.n["elements"]
		before := tells(w.h, o)
		do := act{name: x, o: o}
		level := map[string]int{"Seal": api.LSealed, "Freeze": api.LFrozen}[x]
		for range 2 {
			do.is(t, w.h, cost, nil, typeError())
			fixing(ref(o), level).is(t, w.h, cost, nil, typeError())
			if !sameTold(tells(w.h, o), before) || shapeOf(t, w.h, o).Extensible {
				t.Errorf("21.6: %s left %v, %v", x, tells(w.h, o), shapeOf(t, w.h, o))
			}
			isSealed(o).is(t, w.h, 3, false, nil)
			isFrozen(o).is(t, w.h, 3, false, nil)
			fixedness(ref(o), api.LShut).is(t, w.h, 1, true, nil)
		}
		harden(ref(o)).is(t, w.h, 4, nil, typeError())
		sets(o, str("0"), num(258), ref(o)).is(t, w.h, 1, true, nil)
		// Without its elements it can be fixed, and is then for ever.
		if e := typed.Detach(w.h, w.n["buffer"]); e != api.OK {
			t.Fatal(e)
		}
		isSealed(o).is(t, w.h, 3, false, nil)
		do.is(t, w.h, cost, true, nil)
		isSealed(o).is(t, w.h, 3, true, nil)
		isFrozen(o).is(t, w.h, 3, x == "Freeze", nil)
	}
}

// A typed array without elements is as other objects, but what its buffer has is not its own.
func TestTypedWithoutElements(t *testing.T) {
	w := newWorld(t, 1000, 9)
	o, b := w.n["no elements"], w.n["buffer"]
	freeze(o).is(t, w.h, 4, true, nil)
	freeze(b).is(t, w.h, 4, true, nil)
	if e := typed.Lay(w.h, b, 0, []byte{9}); e != api.OK {
		t.Error(e)
	}
	sets(w.n["elements"], str("0"), num(1), ref(w.n["elements"])).is(t, w.h, 1, true, nil)
	isFrozen(o).is(t, w.h, 3, true, nil)
	isFrozen(b).is(t, w.h, 3, true, nil)
	looks(t, w.h, o, api.Shape{Class: api.CTyped, Proto: ref(1), Props: []api.Prop{is("a", data(num(1), "e"))}})
}

// Exports are not configurable, but can be written for ever: a namespace can be sealed, once all of them are bound, and never be frozen.
func TestNamespaces(t *testing.T) {
	w := newWorld(t, 1000, 9)
	o := w.n["bound exports"]
	isSealed(o).stays(t, w.h, 2+2+2+1, true, nil)
	isFrozen(o).stays(t, w.h, 2+2, false, nil)
	seal(o).stays(t, w.h, 2+3+3+1, true, nil)
	freeze(o).stays(t, w.h, 2+2+3, nil, typeError())
	fixing(ref(o), api.LShut).stays(t, w.h, 1, ref(o), nil)
	fixing(ref(o), api.LSealed).stays(t, w.h, 9, ref(o), nil)
	fixing(ref(o), api.LFrozen).stays(t, w.h, 7, nil, typeError())
	harden(ref(o)).stays(t, w.h, 7, nil, typeError())

	p := w.n["exports"] // a is bound, b is not
	isSealed(p).stays(t, w.h, 2+2+2, nil, referenceError())
	isFrozen(p).stays(t, w.h, 2+2, false, nil)
	seal(p).stays(t, w.h, 2+3+3, nil, referenceError())
	freeze(p).stays(t, w.h, 2+2+3, nil, typeError())
	for level, cost := range map[int]int{api.LSealed: 6, api.LFrozen: 4} {
		var wrong error
		if level == api.LSealed {
			wrong = referenceError()
		}
		fixedness(ref(p), level).stays(t, w.h, cost, false, wrong)
	}
	namespace.Bind(w.h, p, "b", num(1))
	seal(p).stays(t, w.h, 9, true, nil)
	isSealed(p).stays(t, w.h, 7, true, nil)
}

// Where the first export is bound to nothing yet, nothing can be told.
func TestUnboundNamespace(t *testing.T) {
	h := newHeap(t, 1, 1000, 9)
	n, err := namespace.New(h, []string{"a", "b"})
	o := made(t, n, err)
	namespace.Bind(h, o, "b", num(1))
	isSealed(o).stays(t, h, 2+2, nil, referenceError())
	isFrozen(o).stays(t, h, 2+2, nil, referenceError())
	seal(o).stays(t, h, 2+3, nil, referenceError())
	freeze(o).stays(t, h, 2+2, nil, referenceError())
	harden(ref(o)).stays(t, h, 2+2, nil, referenceError())
	fixedness(ref(o), api.LShut).stays(t, h, 1, true, nil)
}

// With each fuel and each depth that is too little: what a namespace enters is one deeper.
func TestNamespacesEnd(t *testing.T) {
	for _, x := range []struct {
		act  func(o int) act
		path string // how deep each method is that is entered
		want any
		err  error
	}{
		{isSealed, "11" + "12" + "12" + "1", true, nil},
		{isFrozen, "11" + "12", false, nil},
		{seal, "11" + "123" + "123" + "1", true, nil},
		{freeze, "11" + "12" + "123", nil, typeError()},
	} {
		for fuel := range len(x.path) + 2 {
			w := newWorld(t, fuel, 9)
			o := w.n["bound exports"]
			if fuel < len(x.path) {
				x.act(o).stays(t, w.h, fuel, nil, api.ErrFuel)
			} else {
				x.act(o).stays(t, w.h, len(x.path), x.want, x.err)
			}
		}
		for depth := 1; depth < 5; depth++ {
			h := newHeap(t, 1, 100, depth)
			n, err := namespace.New(h, []string{"b", "a"})
			o := made(t, n, err)
			namespace.Bind(h, o, "a", num(1))
			namespace.Bind(h, o, "b", num(2))
			at := slices.IndexFunc([]byte(x.path), func(c byte) bool { return int(c-'0') > depth })
			if at >= 0 {
				x.act(o).stays(t, h, at+1, nil, api.ErrDepth)
			} else {
				x.act(o).stays(t, h, len(x.path), x.want, x.err)
			}
		}
	}
}

// Functions still do what they did, once they are frozen.
func TestFunctions(t *testing.T) {
	w := newWorld(t, 1000, 9)
	for name, want := range map[string]api.Value{"function": num(3), "class": num(3), "native": num(1), "bound": num(7), "bound class": num(7)} {
		o := w.n[name]
		freeze(o).played(w.h)
		if v, err := w.h.Call(o, num(3), nil); v != want || err != nil {
			t.Errorf("%s: %v, %v; want %v", name, v, err, want)
		}
	}
	n, err := w.h.Construct(w.n["class"], nil, w.n["class"])
	if s := shapeOf(t, w.h, made(t, n, err)); s.Proto != ref(1) || !s.Extensible {
		t.Errorf("%v", s)
	}
}
