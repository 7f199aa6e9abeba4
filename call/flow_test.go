package call_test

// 11.3: the way through a body: registers, OReturn, OSkip, its end, many operations, fields that are not used.

import (
	"math"
	"slices"
	"strings"
	"testing"

	"cameo/api"
	"cameo/call"
)

// 11.3: an operation sets its To, and no other register; all are undefined at first.
func TestEachRegister(t *testing.T) {
	h := newHeap(t, 600, 1<<20, 9)
	var fill []api.Op
	for i := range api.MaxRegs {
		fill = append(fill, constant(i, num(float64(i))))
	}
	for to := range api.MaxRegs {
		for a := range api.MaxRegs {
			want := num(float64(a))
			if a == to {
				want = text("this")
			}
			f := fn(t, h, slices.Concat(fill, []api.Op{op(api.OThis, to), give(a)})...)
			calls(t, h, "11.3: registers", 1+16+2, want, nil, f, text("this"))
		}
		calls(t, h, "11.3: registers at first", 1+1, undefined(), nil, fn(t, h, give(to)), text("this"))
	}
}

// 11.3: registers do not last from call to call, nor are they those of another call of the same function.
func TestRegistersOfACall(t *testing.T) {
	h := newHeap(t, 2, 1000, 9)
	f := fn(t, h,
		op(api.OMove, 5, 1),                     // undefined, in whichever call
		op(api.OArg, 0), op(api.OSkip, 0, 0, 4), // with an argument that is truthy:
		constant(1, num(7)), op(api.OSelf, 2), // 1 becomes 7,
		op(api.OCall, 3, 2, 3, 4), // the function is called without one,
		give(1),                   // and 1 is still 7
		constant(1, num(8)), give(5))
	for range 3 {
		calls(t, h, "11.3: with an argument", 1+7+1+5, num(7), nil, f, null(), yes())
		calls(t, h, "11.3: without one", 1+5, undefined(), nil, f, null())
	}
}

// 11.3: OReturn ends the body; without one it answers undefined.
func TestReturn(t *testing.T) {
	h := newHeap(t, 20, 1000, 9)
	calls(t, h, "no operations", 1, undefined(), nil, fn(t, h), num(1), num(2))
	calls(t, h, "no OReturn", 3, undefined(), nil, fn(t, h, constant(0, num(5)), op(api.OMove, 1, 0)), num(1))
	calls(t, h, "OReturn", 3, num(5), nil, fn(t, h, constant(0, num(5)), give(0), constant(0, num(6)), throw(0), give(0)), num(1))
	calls(t, h, "OReturn with Catch and To", 3, num(5), nil, fn(t, h, constant(0, num(5)), api.Op{Code: api.OReturn, To: 3, Catch: true}, give(3)), num(1))
	f := fn(t, h, op(api.OThis), give(0))
	for _, v := range append(noObjects(), ref(1), ref(f)) {
		calls(t, h, "the receiver as it is", 3, v, nil, f, v, num(1))
	}
}

// 11.3: OSkip passes over operations, at no cost, and sets nothing.
func TestSkip(t *testing.T) {
	falsy := []api.Value{undefined(), null(), no(), num(0), num(math.Copysign(0, -1)), num(math.NaN()), text("")}
	truthy := []api.Value{yes(), num(1), num(-1), num(math.Inf(1)), num(5e-324), text("0"), text("false"), symbol(1), ref(1)}
	// From 0 on: the argument, 1 = 1, the skip, 1 = 2, 1 = 3, 1 = 4, the answer.
	for b, left := range map[int]int{0: 3, 1: 2, 2: 1, 3: 0, 4: -1, 5: -1, 255: -1, 256: -1, 1 << 32: -1, math.MaxInt - 1: -1, math.MaxInt: -1} {
		h := newHeap(t, 3, 10000, 9)
		f := fn(t, h, op(api.OArg), constant(1, num(1)), api.Op{Code: api.OSkip, To: 1, A: 0, B: b, Catch: true}, constant(1, num(2)), constant(1, num(3)), constant(1, num(4)), give(1))
		for _, v := range truthy {
			calls(t, h, "OSkip: truthy", 1+7, num(4), nil, f, null(), v)
		}
		want := map[int]api.Value{3: num(4), 2: num(4), 1: num(4), 0: num(1), -1: undefined()}[left]
		for _, v := range falsy {
			calls(t, h, "OSkip: not truthy", 1+3+left+1, want, nil, f, null(), v)
		}
	}
	h := newHeap(t, 3, 100, 9)
	calls(t, h, "OSkip of what would throw", 1+2, undefined(), nil, fn(t, h, op(api.OSkip, 0, 0, 1), throw(0), give(0)), null())
	calls(t, h, "OSkip as the last one", 1+1, undefined(), nil, fn(t, h, op(api.OSkip, 0, 0, math.MaxInt)), null())
	calls(t, h, "OSkip behind OSkip", 1+4, num(3), nil, fn(t, h, op(api.OSkip, 0, 0, 1), give(0), op(api.OSkip, 0, 0, 1), give(0), constant(0, num(3)), give(0)), null())
}

// 11.2, 11.3: bodies of MaxOps operations, and calls with MaxArgs arguments.
func TestMany(t *testing.T) {
	h := newHeap(t, 5, 10000, 9)
	body := slices.Repeat([]api.Op{op(api.OThis, 3)}, api.MaxOps)
	body[255] = give(3)
	f := fn(t, h, body...)
	calls(t, h, "256 operations", 1+256, num(1), nil, f, num(1))
	body[0] = op(api.OSkip, 0, 0, 254)
	calls(t, h, "256 operations, nearly all passed over", 1+2, undefined(), nil, fn(t, h, body...), num(1))
	if n, err := call.New(h, null(), append(body, give(0)), true); n != 0 || err != api.ErrLong {
		t.Errorf("11.2: %d, %v", n, err)
	}
	var args []api.Value
	for i := range api.MaxArgs {
		args = append(args, num(float64(i)))
	}
	last := fn(t, h, op(api.OArg, 0, 1023), give(0))
	calls(t, h, "1024 arguments", 3, num(1023), nil, last, num(1), args...)
	calls(t, h, "1025 arguments", 0, api.Value{}, api.ErrLong, last, num(1), append(args, null())...)
	calls(t, h, "1023 arguments", 3, undefined(), nil, last, num(1), args[:1023]...)
	h.Refuel(256)
	calls(t, h, "fuel for 255 operations", 256, api.Value{}, api.ErrFuel, f, num(1))
}

// 11.1, 11.3: fields that a code does not use are not looked at, while it runs neither.
func TestUnusedFields(t *testing.T) {
	for code := api.OConst; code <= api.OSetBy; code++ {
		used := func(field string) bool { return strings.Contains(uses()[code], field) }
		play := func(o api.Op) (api.Value, error, int, []api.Shape) {
			h := newHeap(t, 5, 100, 9)
			made(t, h, null())
			ctor(t, h, op(api.OThis), give(0))
			f := fn(t, h, constant(0, ref(2)), constant(1, null()), constant(2, num(3)), o, give(4))
			v, err := h.Call(f, text("this"), nil)
			return v, err, h.Fuel(), h.Shapes()
		}
		one := plain(code)
		one.To, one.Key, one.Desc = 4, str("k"), open(num(1))
		if code != api.OArg && code != api.OSkip {
			one.B, one.C = 1, 2
		}
		if !used("D") {
			one.Desc = api.Desc{}
		}
		other := one
		for _, n := range []int{-1, 16, math.MinInt, math.MaxInt} {
			if !used("A") && code != api.OArg {
				other.A = n
			}
			if !used("B") && code != api.OSkip {
				other.B = n
			}
			if !used("C") {
				other.C = n
			}
			if !used("K") {
				other.Key = api.Key{Str: "\xff", Sym: n}
			}
			if !used("V") {
				other.Val = api.Value{Kind: n, Id: n}
			}
			if !used("D") {
				other.Desc, other.Flag = api.Desc{Get: num(1), Value: ref(99), Writable: 7}, true
			}
			v, err, fuel, shapes := play(one)
			w, wrong, left, after := play(other)
			if v != w || !sameError(err, wrong) || fuel != left || !sameShapes(shapes, after) {
				t.Errorf("11.3: %v: %v, %v; %v: %v, %v", one, v, err, other, w, wrong)
			}
		}
	}
}
