package iterate_test

// As much as there may be, and one more: values of a list, and keys that a for-in loop tells.

import (
	"strconv"
	"strings"
	"testing"

	"cameo/api"
	"cameo/array"
	"cameo/iterate"
)

// counting is an iterator that tells 0, 1 and so on, so many times, and counts how often it is closed.
func counting(t *testing.T, m *midst, times int) (api.Value, *int) {
	t.Helper()
	n, closed := 0, new(int)
	r := object(t, m.h, null(), has("value", num(0)))
	next := addNative(t, m.h, func(api.Value, []api.Value) (api.Value, error) {
		lay(t, m.h, r, has("value", num(float64(n))), has("done", api.Value{Kind: api.KBool, Bool: n == times}))
		n++
		return ref(r), nil
	})
	back := m.program(ref(r), func() { *closed++ })
	it := object(t, m.h, null(), has("next", ref(next)), has("return", ref(back)))
	return ref(object(t, m.h, null(), marked(api.SymIterator, data(ref(giving(t, m.h, ref(it))), "")))), closed
}

// A list has at most MaxArgs values. One more stops it, and nothing is closed; the value that is too much has been asked for.
func TestLongLists(t *testing.T) {
	for _, times := range []int{0, 1, api.MaxArgs - 1, api.MaxArgs, api.MaxArgs + 1, api.MaxArgs + 2, 3 * api.MaxArgs} {
		m := newMidst(t, api.IValues)
		of, closed := counting(t, m, times)
		l, err := iterate.List(m.h, of)
		want, cost := error(nil), 3+3*times+2
		if times > api.MaxArgs {
			want, cost = api.ErrLong, 3+3*(api.MaxArgs+1)
		}
		if err != want || *closed > 0 || 10000-m.h.Fuel() != cost || want != nil && l != nil {
			t.Fatalf("23.7: of %d values: %d, %v, closed %d times, %d spent; want %v, %d", times, len(l), err, *closed, 10000-m.h.Fuel(), want, cost)
		}
		if want == nil && len(l) != times {
			t.Fatalf("23.7: %d values, want %d", len(l), times)
		}
		for i, v := range l {
			if !sameValue(v, num(float64(i))) {
				t.Fatalf("23.7: %d is %v", i, v)
			}
		}
	}
}

// An array of as many, and a loop, which has no such limit.
func TestLongArrays(t *testing.T) {
	for _, kind := range kinds() {
		for n := api.MaxArgs - 1; n <= api.MaxArgs+1; n++ {
			h := newHeap(t, 20000, 1<<20, 9)
			proto := object(t, h, null(), marked(api.SymIterator, data(ref(makerOf(t, h, kind)), "")))
			a, err := array.New(h, ref(proto), int64(n))
			made(t, a, err)
			l, err := iterate.List(h, ref(a))
			if n <= api.MaxArgs && (len(l) != n || err != nil) || n > api.MaxArgs && (l != nil || err != api.ErrLong) {
				t.Errorf("23.7: %d of %d, %v", len(l), n, err)
			}
			calls := 0
			f := addNative(t, h, func(api.Value, []api.Value) (api.Value, error) {
				calls++
				return undefined(), nil
			})
			if times, err := iterate.ForOf(h, ref(a), ref(f)); times != n || err != nil || calls != n {
				t.Errorf("23.8: %d, %v, %d calls", times, err, calls)
			}
		}
	}
}

// A loop goes on for longer than a list may be: its function is called, and counted, each time.
func TestLongLoops(t *testing.T) {
	const times = 5*api.MaxArgs + 3
	m := newMidst(t, api.IValues)
	m.h.Refuel(1 << 20)
	of, closed := counting(t, m, times)
	last := -1.0
	f := addNative(t, m.h, func(_ api.Value, l []api.Value) (api.Value, error) {
		if l[0].Num != last+1 {
			t.Errorf("23.8: %v behind %v", l[0], last)
		}
		last++
		return num(0), nil
	})
	if n, err := iterate.ForOf(m.h, of, ref(f)); n != times || err != nil || *closed > 0 {
		t.Errorf("23.8: %d, %v, closed %d times", n, err, *closed)
	}
}

// A for-in loop tells at most MaxObjects keys: of one object, or of several ones, each behind another. Such as are not told do not count.
func TestManyNames(t *testing.T) {
	for _, row := range []struct{ objects, keys, hidden, fails int }{{1, api.MaxObjects, 0, 0}, {1, api.MaxObjects + 1, 0, 1}, {1, api.MaxObjects, 5, 0}, {4, api.MaxObjects / 4, 3, 0}, {4, api.MaxObjects/4 + 1, 3, 1}} {
		h := newHeap(t, 60, 1<<20, 9)
		cost := 0
		proto := null()
		var want []string
		for o := range row.objects {
			n := object(t, h, proto)
			proto = ref(n)
			var names []string
			for i := range row.keys {
				names = append(names, strconv.Itoa(o*100000+i))
				lay(t, h, n, has(names[i], num(1)))
			}
			for i := range row.hidden {
				lay(t, h, n, is("hidden"+strconv.Itoa(i), data(num(1), "")), has("shared", num(1)), marked(i+1, data(num(1), "wec")))
				h.Delete(n, str("shared"))
			}
			want = append(names, want...)
			cost += 2 + row.keys
		}
		cost += row.hidden // which are behind others the second time
		h.Refuel(1 << 20)
		l, err := iterate.ForIn(h, proto)
		if row.fails > 0 {
			// The key that is too much has been looked at, and nothing else.
			if l != nil || err != api.ErrLong || 1<<20-h.Fuel() > cost {
				t.Errorf("23.9: %+v: %d keys, %v", row, len(l), err)
			}
			continue
		}
		if len(l) != len(want) || err != nil || 1<<20-h.Fuel() != cost {
			t.Fatalf("23.9: %+v: %d keys, %v, %d spent; want %d, %d", row, len(l), err, 1<<20-h.Fuel(), len(want), cost)
		}
		for i, k := range l {
			if k != str(want[i]) {
				t.Fatalf("23.9: %+v: %d is %v; want %s", row, i, k, want[i])
			}
		}
	}
}

// What is too much is found where it is: with fuel for no more it is told so, with less it is fuel that ends.
func TestOneNameTooMany(t *testing.T) {
	h := newHeap(t, 60, 1<<20, 9)
	o := object(t, h, null())
	for i := range api.MaxObjects {
		lay(t, h, o, has(strconv.Itoa(i), num(1)))
	}
	p := object(t, h, null(), has("a", num(1)))
	if l, err := iterate.ForIn(h, ref(o)); len(l) != api.MaxObjects || err != nil {
		t.Fatal(len(l), err)
	}
	lay(t, h, o, is("hidden", data(num(1), "")))
	lay(t, h, o, has("too much", num(1)))
	lay(t, h, o, has("more", num(1)))
	const cost = 1 + api.MaxObjects + 2
	for fuel, want := range map[int]error{cost - 1: api.ErrFuel, cost: api.ErrLong, cost + 10: api.ErrLong} {
		h.Refuel(fuel)
		if l, err := iterate.ForIn(h, ref(o)); l != nil || err != want || h.Fuel() != max(fuel-cost, 0) {
			t.Errorf("23.9: fuel %d: %d, %v, %d left", fuel, len(l), err, h.Fuel())
		}
	}
	h.Refuel(10)
	ask("ForIn", ref(p)).stays(t, h, 3, splits("a"), nil)
}

// Strings as long as there may be: values of lists, and names of keys.
func TestLongStrings(t *testing.T) {
	h := newHeap(t, 60, 1000, 9)
	s := strings.Repeat("ab", api.MaxStr/2)
	n, err := array.Of(h, ref(runner(t, h, api.IValues)), []api.Value{text(s)})
	a := made(t, n, err)
	l, err := iterate.List(h, ref(a))
	if err != nil || len(l) != 1 || l[0].Str != s {
		t.Errorf("23.7: %d, %v", len(l), err)
	}
	o := object(t, h, null(), has(s, num(1)))
	keys, err := iterate.ForIn(h, ref(o))
	if err != nil || len(keys) != 1 || keys[0].Str != s {
		t.Errorf("23.9: %d, %v", len(keys), err)
	}
	r, err := iterate.Result(h, text(s), true)
	made(t, r, err)
	looks(t, h, r, result(text(s), yes()))
	ask("Result", text(s+"a")).stays(t, h, 0, nil, api.ErrValue)
}
