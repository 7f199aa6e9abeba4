package invariant_test

// Sealed, Frozen and Same.

import (
	"slices"
	"testing"

	"cameo/api"
	"cameo/invariant"
)

// 10.2: one property, of each kind; a shape that is extensible is neither, whatever it has.
func TestSealedAndFrozen(t *testing.T) {
	for _, c := range []struct {
		props          []api.Prop
		sealed, frozen bool
	}{
		{nil, true, true}, // example 4
		{[]api.Prop{}, true, true},
		{[]api.Prop{prop("a", data(num(1), ""))}, true, true},
		{[]api.Prop{prop("a", data(num(1), "e"))}, true, true},
		{[]api.Prop{prop("a", data(num(1), "w"))}, true, false},
		{[]api.Prop{prop("a", data(num(1), "c"))}, false, false},
		{[]api.Prop{prop("a", data(num(1), "wec"))}, false, false},
		{[]api.Prop{prop("a", accessor(ref(1), ref(2), ""))}, true, true},
		{[]api.Prop{prop("a", accessor(undefined(), undefined(), "e"))}, true, true},
		{[]api.Prop{prop("a", accessor(ref(1), ref(2), "c"))}, false, false},
		// What is not whole: absent is not No, and what is of KNone is not there.
		{[]api.Prop{prop("a", api.Desc{})}, false, false},
		{[]api.Prop{prop("a", api.Desc{Configurable: api.No})}, true, false},
		{[]api.Prop{prop("a", api.Desc{Configurable: api.No, Writable: api.No})}, true, true},
		{[]api.Prop{prop("a", api.Desc{Configurable: api.No, Writable: 3})}, true, false},
		{[]api.Prop{prop("a", api.Desc{Configurable: 3, Writable: api.No})}, false, false},
		{[]api.Prop{prop("a", api.Desc{Configurable: api.No, Get: ref(1)})}, true, true},
		{[]api.Prop{prop("a", api.Desc{Configurable: api.No, Set: undefined()})}, true, true},
		{[]api.Prop{prop("a", api.Desc{Configurable: api.No, Set: undefined(), Writable: api.Yes})}, true, true},
		{[]api.Prop{prop("a", api.Desc{Configurable: api.No, Get: api.Value{Id: 1}, Set: api.Value{Str: "x"}})}, true, false},
		{[]api.Prop{prop("a", api.Desc{Configurable: api.No, Get: api.Value{Kind: -1}})}, true, true},
		// All of them count, the second one of a key, too.
		{[]api.Prop{prop("a", data(num(1), "")), prop("b", accessor(ref(1), ref(1), "")), prop("c", data(num(1), "e"))}, true, true},
		{[]api.Prop{prop("a", data(num(1), "")), prop("b", data(num(1), "w")), prop("c", data(num(1), ""))}, true, false},
		{[]api.Prop{prop("a", data(num(1), "")), prop("b", data(num(1), "")), prop("c", data(num(1), "c"))}, false, false},
		{[]api.Prop{prop("a", data(num(1), "c")), prop("b", data(num(1), ""))}, false, false},
		{[]api.Prop{prop("a", data(num(1), "")), prop("a", data(num(1), "w"))}, true, false},
		{[]api.Prop{prop("a", data(num(1), "")), prop("a", data(num(1), "c"))}, false, false},
	} {
		for _, class := range []int{0, api.COrdinary, api.CProxy, -1} {
			s := shut(c.props...)
			s.Class = class
			if sealed, frozen := invariant.Sealed(s), invariant.Frozen(s); sealed != c.sealed || frozen != c.frozen {
				t.Errorf("10.2: %t, %t: %s", sealed, frozen, say(moment(s)))
			}
			s.Extensible = true
			if invariant.Sealed(s) || invariant.Frozen(s) {
				t.Errorf("10.2: extensible: %s", say(moment(s)))
			}
		}
	}
	if !invariant.Sealed(api.Shape{}) || !invariant.Frozen(api.Shape{}) {
		t.Error("10.2: of the zero shape")
	}
}

// 10.2: each thing that makes a moment another one.
func TestSame(t *testing.T) {
	a := moment(opened(), shut(prop("a", data(num(0), "w")), prop("b", accessor(ref(1), ref(2), "c"))))
	for i, do := range []func(l []api.Shape) []api.Shape{
		func(l []api.Shape) []api.Shape { return nil },
		func(l []api.Shape) []api.Shape { return l[:1] },
		func(l []api.Shape) []api.Shape { return append(l, opened()) },
		func(l []api.Shape) []api.Shape { l[1].Class = api.CArray; return l },
		func(l []api.Shape) []api.Shape { l[1].Proto = ref(1); return l },
		func(l []api.Shape) []api.Shape { l[0].Proto.Id = 1; return l },
		func(l []api.Shape) []api.Shape { l[0].Extensible = false; return l },
		func(l []api.Shape) []api.Shape { l[1].Extensible = true; return l },
		func(l []api.Shape) []api.Shape { l[0], l[1] = l[1], l[0]; return l },
		func(l []api.Shape) []api.Shape { l[1].Props = l[1].Props[:1]; return l },
		func(l []api.Shape) []api.Shape { l[0].Props = l[1].Props[:1]; return l },
		func(l []api.Shape) []api.Shape { slices.Reverse(l[1].Props); return l },
		func(l []api.Shape) []api.Shape { l[1].Props[0].Key = str("c"); return l },
		func(l []api.Shape) []api.Shape { l[1].Props[0].Key.Sym = 1; return l },
		func(l []api.Shape) []api.Shape { l[1].Props[0].Desc.Value = num(minus0()); return l },
		func(l []api.Shape) []api.Shape { l[1].Props[0].Desc.Value = num(1); return l },
		func(l []api.Shape) []api.Shape { l[1].Props[0].Desc.Value = api.Value{}; return l },
		func(l []api.Shape) []api.Shape { l[1].Props[0].Desc.Value.Bool = true; return l },
		func(l []api.Shape) []api.Shape { l[1].Props[0].Desc.Value.Str = "x"; return l },
		func(l []api.Shape) []api.Shape { l[1].Props[0].Desc.Get.Id = 1; return l },
		func(l []api.Shape) []api.Shape { l[1].Props[0].Desc.Set.Num = minus0(); return l },
		func(l []api.Shape) []api.Shape { l[1].Props[0].Desc.Writable = api.No; return l },
		func(l []api.Shape) []api.Shape { l[1].Props[0].Desc.Enumerable = api.Yes; return l },
		func(l []api.Shape) []api.Shape { l[1].Props[0].Desc.Configurable = api.Yes; return l },
		func(l []api.Shape) []api.Shape { l[1].Props[1].Desc.Get = ref(2); return l },
		func(l []api.Shape) []api.Shape { l[1].Props[1].Desc.Set = ref(1); return l },
		func(l []api.Shape) []api.Shape { l[1].Props[1].Desc.Writable = api.No; return l },
	} {
		b := do(copied(a))
		if invariant.Same(a, b) || invariant.Same(b, a) || !invariant.Same(b, copied(b)) {
			t.Errorf("10.2: row %d: %s", i, say(b))
		}
	}
	empty := moment(shut())
	empty[0].Props = []api.Prop{}
	if !invariant.Same(a, copied(a)) || !invariant.Same(nil, []api.Shape{}) || !invariant.Same(moment(shut()), empty) {
		t.Error("10.2: the same")
	}
	x, y := moment(shut(prop("a", data(num(nan()), "")))), moment(shut(prop("a", data(num(otherNaN()), ""))))
	if !invariant.Same(x, y) {
		t.Error("10.2: not a number")
	}
}

// 10.2, held against the second reading.
func TestLevelsAtRandom(t *testing.T) {
	t.Parallel()
	met := [2][2]int{}
	for seed := range int64(10000) {
		c := newChance(seed, seed%2 == 0)
		a := c.moment()
		b := c.turned(a)
		if got, want := invariant.Same(a, b), say(a) == say(b); got != want {
			t.Fatalf("10.2: Same: %t:\n%sand\n%s", got, say(a), say(b))
		}
		for _, s := range b {
			sealed, frozen := !s.Extensible, !s.Extensible
			for _, p := range s.Props {
				sealed = sealed && p.Desc.Configurable == api.No
				frozen = frozen && (p.Desc.Writable == api.No || p.Desc.Get.Kind != api.KNone || p.Desc.Set.Kind != api.KNone)
			}
			frozen = frozen && sealed
			if invariant.Sealed(s) != sealed || invariant.Frozen(s) != frozen {
				t.Fatalf("10.2: %t, %t: %s", invariant.Sealed(s), invariant.Frozen(s), say(moment(s)))
			}
			if len(s.Props) > 0 {
				met[count(sealed)][count(frozen)]++
			}
		}
	}
	if met[0][0] < 100 || met[1][0] < 100 || met[1][1] < 100 {
		t.Errorf("met: %v", met)
	}
}

func count(b bool) int {
	if b {
		return 1
	}
	return 0
}
