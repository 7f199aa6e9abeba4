package key_test

import (
	"cmp"
	"math/rand"
	"slices"
	"strings"
	"testing"

	"cameo/api"
	"cameo/key"
)

// 4.5 and 4.10

func compared(t *testing.T, a, b api.Key) int {
	n, e := key.Compare(a, b)
	if e != api.OK {
		t.Errorf("Compare(%v, %v): %d", a, b, e)
	}
	return n
}

// Of all pairs of rows: the order of the table; so it is one order, and 0 is answered of the same key alone.
func TestCompare(t *testing.T) {
	all := rows()
	for i, a := range all {
		for j, b := range all {
			if n := compared(t, a.k, b.k); n != cmp.Compare(i, j) {
				t.Errorf("Compare(%s, %s): %d", a.text, b.text, n)
			}
		}
	}
}

func TestCompareOfLongStrings(t *testing.T) {
	a, b := strings.Repeat("1", api.MaxStr), strings.Repeat("1", api.MaxStr/2)
	for _, c := range []struct {
		a, b api.Key
		want int
	}{
		{str(a), str(b + b), 0}, {str(a), str(b), 1}, {str(b), str(a), -1}, {str(a), str("2"), 1}, {str("4294967294"), str(a), -1}, {str(a), str("a"), -1}, {str(a), sym(1), -1}, {sym(65536), str(a), 1},
	} {
		if n := compared(t, c.a, c.b); n != c.want {
			t.Errorf("Compare(%.20v, %.20v): %d", c.a, c.b, n)
		}
	}
}

func TestCompareIsOneOrder(t *testing.T) {
	r := rand.New(rand.NewSource(4))
	for range 20000 {
		a, b, c := randomKey(r), randomKey(r), randomKey(r)
		ab, ba, bc, ac := compared(t, a, b), compared(t, b, a), compared(t, b, c), compared(t, a, c)
		if ab != compareKeys(a, b) || ab != -ba || (ab == 0) != (a == b) {
			t.Errorf("%v, %v: %d, %d", a, b, ab, ba)
		}
		if ab <= 0 && bc <= 0 && ac != min(ab, bc) || ab >= 0 && bc >= 0 && ac != max(ab, bc) {
			t.Errorf("%v, %v, %v: %d, %d, but %d", a, b, c, ab, bc, ac)
		}
		if compared(t, a, a) != 0 {
			t.Errorf("%v and itself", a)
		}
	}
}

// 4.5 and 4.9

func orderedKeys(t *testing.T, l []api.Key) []api.Key {
	out, e := key.Order(l)
	if e != api.OK {
		t.Errorf("Order(%v): %d", l, e)
	}
	return out
}

func TestOrder(t *testing.T) {
	for _, c := range []struct{ l, want []api.Key }{
		{nil, nil}, {[]api.Key{}, nil}, {strs("a"), strs("a")}, {strs(""), strs("")}, {strs("1"), strs("1")}, {[]api.Key{sym(1)}, []api.Key{sym(1)}},
		{append(append(append(strs("b", "2"), sym(3)), strs("10", "a", "01")...), sym(1), str("1")), append(strs("1", "2", "10", "b", "a", "01"), sym(3), sym(1))},
		{strs("10", "9", "1", "2"), strs("1", "2", "9", "10")}, {strs("b", "a", "c", ""), strs("b", "a", "c", "")}, {[]api.Key{sym(3), sym(1), sym(2)}, []api.Key{sym(3), sym(1), sym(2)}},
		{strs("2", "b", "2", "1", "b", "1", "2"), strs("1", "1", "2", "2", "2", "b", "b")},
		{[]api.Key{sym(2), sym(1), sym(2), str("b"), str("a"), str("b"), sym(1)}, append(strs("b", "a", "b"), sym(2), sym(1), sym(2), sym(1))},
		{strs("4294967296", "4294967295", "4294967294", "4294967293", "0"), strs("0", "4294967293", "4294967294", "4294967296", "4294967295")},
		{strs("-1", "1.5", "1", "00", "-0", "0", "NaN", "1e+21"), strs("0", "1", "-1", "1.5", "00", "-0", "NaN", "1e+21")},
		{strs("2147483648", "2147483647", "3000000000", "1"), strs("1", "2147483647", "2147483648", "3000000000")},
		{strs("\uFFFF", "\U00010000", "\xED\xA0\xBD", "5"), strs("5", "\uFFFF", "\U00010000", "\xED\xA0\xBD")},
		{strs("18446744073709551617", "2"), strs("2", "18446744073709551617")},
	} {
		if out := orderedKeys(t, c.l); !slices.Equal(out, c.want) {
			t.Errorf("Order(%+v): %+v", c.l, out)
		}
	}
}

// counted is how often each key is in a list.
func counted(l []api.Key) map[api.Key]int {
	m := map[api.Key]int{}
	for _, k := range l {
		m[k]++
	}
	return m
}

// followsOrder holds an answer of Order against each sentence of 4.9.
func followsOrder(t *testing.T, l, out []api.Key) {
	want := counted(l)
	for k, n := range counted(out) {
		if want[k] != n {
			t.Errorf("%v: %d, not %d", k, n, want[k])
		}
	}
	if len(out) != len(l) {
		t.Errorf("%d keys became %d", len(l), len(out))
	}
	for i := 1; i < len(out); i++ {
		a, n := kindOf(out[i-1])
		b, m := kindOf(out[i])
		if a > b || a == 0 && b == 0 && n > m {
			t.Errorf("%v stands ahead of %v", out[i-1], out[i])
		}
	}
	if again := orderedKeys(t, out); !slices.Equal(again, out) {
		t.Errorf("the second time: %v, then %v", out, again)
	}
}

func TestOrderOfRandomKeys(t *testing.T) {
	r := rand.New(rand.NewSource(5))
	for n := range 2000 {
		var l []api.Key
		for range r.Intn(1 + n%100) {
			l = append(l, randomKey(r))
		}
		out := orderedKeys(t, l)
		if !slices.Equal(out, orderKeys(l)) {
			t.Fatalf("Order(%v): %v", l, out)
		}
		followsOrder(t, l, out)
	}
}

// Each kind in many keys, with few that are unlike: strings and symbols stay as they stand, however often they come.
func TestOrderOfManyKeys(t *testing.T) {
	r := rand.New(rand.NewSource(6))
	var l []api.Key
	all := rows()
	for range 30000 {
		l = append(l, all[r.Intn(len(all))].k)
	}
	out := orderedKeys(t, l)
	if !slices.Equal(out, orderKeys(l)) {
		t.Error("another order")
	}
	followsOrder(t, l, out)
}

func TestOrderOfTheRows(t *testing.T) {
	var l []api.Key
	for _, r := range rows() {
		l = append(l, r.k)
	}
	if out := orderedKeys(t, l); !slices.Equal(out, l) {
		t.Errorf("%v", out)
	}
	back := slices.Clone(l)
	slices.Reverse(back)
	out := orderedKeys(t, back)
	if !slices.Equal(out, orderKeys(back)) {
		t.Errorf("%v", out)
	}
	followsOrder(t, back, out)
}
