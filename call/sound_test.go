package call_test

// 11.1: which bodies are sound.

import (
	"math"
	"slices"
	"strings"
	"testing"

	"cameo/api"
	"cameo/call"
)

// uses is what each code uses, at its place: the registers A, B and C; the numbers a and b; K the key, V the value, D the descriptor.
func uses() []string {
	return []string{
		api.OConst: "V", api.OMove: "A", api.OThis: "", api.OArg: "a", api.OTarget: "", api.OSelf: "",
		api.OReturn: "A", api.OThrow: "A", api.OSkip: "Ab",
		api.OGet: "AK", api.OSet: "ABK", api.ODefine: "ABKD", api.ODelete: "AK", api.OHas: "AK", api.OOwn: "AK",
		api.OProto: "A", api.OReproto: "AB", api.OExt: "A", api.OPrevent: "A",
		api.OCall: "ABC", api.ONew: "AB", api.OMake: "A", api.OGetBy: "AB", api.OSetBy: "ABC",
	}
}

// plain is a sound operation of a code, of which nothing is but what must be.
func plain(code int) api.Op {
	o := api.Op{Code: code}
	if code == api.OConst {
		o.Val = undefined()
	}
	return o
}

// sounds holds Sound of an operation, alone and among others, against what it must be.
func sounds(t *testing.T, want bool, o api.Op) {
	t.Helper()
	others := slices.Repeat([]api.Op{plain(api.OThis)}, 3)
	for _, l := range [][]api.Op{{o}, slices.Concat([]api.Op{o}, others), slices.Concat(others, []api.Op{o}), slices.Concat(others, []api.Op{o}, others)} {
		if call.Sound(l) != want {
			t.Errorf("11.1: %v: %v", !want, l)
		}
	}
}

// 11.1: the codes are 1 to 24.
func TestCodes(t *testing.T) {
	for _, code := range []int{math.MinInt, -1, 0, 25, 26, 256 + api.OThis, math.MaxInt} {
		sounds(t, false, api.Op{Code: code, Val: undefined()})
	}
	for code := api.OConst; code <= api.OSetBy; code++ {
		sounds(t, true, plain(code))
	}
	if len(uses()) != 25 {
		t.Error(len(uses()))
	}
}

// 11.1: registers are 0 to 15, To of all codes, A, B and C of those that use them; the numbers of OArg and OSkip are not below 0.
func TestRegisters(t *testing.T) {
	for code := api.OConst; code <= api.OSetBy; code++ {
		used := uses()[code]
		for _, n := range []int{math.MinInt, -16, -1, 0, 1, 14, 15, 16, 17, 256, math.MaxInt} {
			in := n >= 0 && n <= 15
			turned := func(want bool, turn func(o *api.Op)) {
				o := plain(code)
				turn(&o)
				sounds(t, want, o)
			}
			fits := func(upper, lower string) bool {
				return (in || !strings.Contains(used, upper)) && (n >= 0 || !strings.Contains(used, lower))
			}
			turned(in, func(o *api.Op) { o.To = n })
			turned(fits("A", "a"), func(o *api.Op) { o.A = n })
			turned(fits("B", "b"), func(o *api.Op) { o.B = n })
			turned(fits("C", "c"), func(o *api.Op) { o.C = n })
			turned(fits("B", "b"), func(o *api.Op) { o.B, o.Flag, o.Catch = n, true, true })
		}
	}
}

// 11.1: keys, values and descriptors are looked at where they are used, and nowhere else.
func TestFields(t *testing.T) {
	long := strings.Repeat("x", api.MaxStr)
	for code := api.OConst; code <= api.OSetBy; code++ {
		free := func(field string) bool { return !strings.Contains(uses()[code], field) }
		for _, k := range []api.Key{str(""), str("a"), str("\xed\xa0\xbd"), str("4294967295"), sym(1), sym(65536), str(long)} {
			sounds(t, true, at(k, plain(code)))
		}
		for _, k := range append(brokenKeys(), str(long+"x")) {
			sounds(t, free("K"), at(k, plain(code)))
		}
		valued := func(v api.Value) api.Op {
			o := plain(code)
			o.Val = v
			return o
		}
		for _, v := range []api.Value{undefined(), null(), yes(), no(), num(math.Copysign(0, -1)), num(math.NaN()), text(long), symbol(1), symbol(65536), ref(1), ref(65536)} {
			sounds(t, true, valued(v))
		}
		for _, v := range append(broken(), text(long+"x")) {
			sounds(t, free("V"), valued(v))
		}
		described := func(d api.Desc, flag bool) api.Op {
			o := plain(code)
			o.Desc, o.Flag = d, flag
			return o
		}
		for _, d := range []api.Desc{{}, {Value: num(1)}, {Value: ref(65536)}, {Value: text(long)}, {Writable: api.No}, open(null()), {Enumerable: api.Yes}, {Configurable: api.No}} {
			sounds(t, true, described(d, false))
			sounds(t, true, described(d, true))
		}
		for _, d := range []api.Desc{{Get: undefined()}, {Set: undefined()}, {Get: ref(1)}, {Set: ref(65536)}, {Get: ref(1), Set: ref(1), Enumerable: api.Yes}} {
			sounds(t, true, described(d, false))
			sounds(t, free("D"), described(d, true))
		}
		for _, d := range append(brokenDescs(), api.Desc{Value: text(long + "x")}) {
			sounds(t, free("D"), described(d, false))
			sounds(t, free("D"), described(d, true))
		}
	}
}

// 11.1: at most 256 operations; of more it does not count what they are.
func TestLength(t *testing.T) {
	for n, want := range map[int]bool{0: true, 1: true, 255: true, 256: true, 257: false, 512: false, 1 << 16: false} {
		if l := slices.Repeat([]api.Op{plain(api.OSelf)}, n); call.Sound(l) != want {
			t.Errorf("11.1: %d operations", n)
		}
	}
	if !call.Sound(nil) || !call.Sound([]api.Op{}) {
		t.Error("11.1: no operations")
	}
	for _, n := range []int{0, 128, 255} {
		l := slices.Repeat([]api.Op{plain(api.OSelf)}, 256)
		l[n].To = 16
		if call.Sound(l) {
			t.Errorf("11.1: an operation at %d", n)
		}
	}
}
