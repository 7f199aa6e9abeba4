package value_test

import (
	"math"
	"math/rand"
	"strings"
	"testing"

	"cameo/api"
	"cameo/units"
	"cameo/value"
)

var none = api.Value{}

// 3.1

func TestCheck(t *testing.T) {
	for _, r := range rows() {
		if e := value.Check(r.v); e != api.OK {
			t.Errorf("Check(%s): %d", r.text, e)
		}
	}
	for _, v := range wrongs() {
		if e := value.Check(v); e != api.ErrValue {
			t.Errorf("Check(%.60s): %d", mark(v), e)
		}
	}
}

// Every field in each of its states, beside every other one.
func TestCheckOfAllFields(t *testing.T) {
	longest := strings.Repeat("a", api.MaxStr)
	strs := []string{"", "a", "\xFF", "\xED\xA0\xBD", "\xED\xA0\xBD\xED\xB8\x80", longest, longest + "a", longest[1:] + "\xFF", longest + "\xFF"}
	count := 0
	for _, kind := range []int{math.MinInt, -4, -1, 0, 1, 2, 3, 4, 5, 6, 7, 8, 9, 1<<32 + 1, math.MaxInt} {
		for _, b := range []bool{false, true} {
			for _, x := range []float64{0, minus0, 1, 5e-324, -inf, nan} {
				for _, s := range strs {
					for _, id := range []int{math.MinInt, -1, 0, 1, 2, 65535, 65536, 65537, 1<<32 + 1, math.MaxInt} {
						v := api.Value{Kind: kind, Bool: b, Num: x, Str: s, Id: id}
						want := api.ErrValue
						if well(v) {
							want = api.OK
							count++
						}
						if e := value.Check(v); e != want {
							t.Errorf("Check(%.60s): %d, want %d", mark(v), e, want)
						}
					}
				}
			}
		}
	}
	// undefined, null, two booleans, six numbers, four strings, four symbols, four objects
	if count != 2+2+6+4+4+4 {
		t.Errorf("%d values are well formed", count)
	}
}

func TestLimitsOfStrings(t *testing.T) {
	for _, c := range []struct {
		s  string
		ok bool
	}{
		{strings.Repeat("a", api.MaxStr), true}, {strings.Repeat("a", api.MaxStr+1), false},
		{strings.Repeat("\xED\xA0\x80", api.MaxStr/3), true}, {strings.Repeat("\xED\xA0\x80", api.MaxStr/3+1), false},
		{strings.Repeat("\U0001F600", api.MaxStr/4), true}, {strings.Repeat("\U0001F600", api.MaxStr/4) + "a", false},
		{strings.Repeat("\x00", api.MaxStr), true}, {strings.Repeat("\x00", api.MaxStr+1), false},
		{strings.Repeat("a", 3*api.MaxStr), false},
	} {
		want := none
		if c.ok {
			want = str(c.s)
		}
		if v := value.Str(c.s); v != want {
			t.Errorf("Str of %d bytes: kind %d", len(c.s), v.Kind)
		}
		if e := value.Check(str(c.s)); (e == api.OK) != c.ok {
			t.Errorf("Check of %d bytes: %d", len(c.s), e)
		}
	}
}

func TestMakers(t *testing.T) {
	if v := value.Undefined(); v != (api.Value{Kind: api.KUndefined}) {
		t.Errorf("Undefined: %v", v)
	}
	if v := value.Null(); v != (api.Value{Kind: api.KNull}) {
		t.Errorf("Null: %v", v)
	}
	for _, b := range []bool{false, true} {
		if v := value.Bool(b); v != (api.Value{Kind: api.KBool, Bool: b}) {
			t.Errorf("Bool(%t): %v", b, v)
		}
	}
	for _, r := range rows() {
		var v api.Value
		switch r.v.Kind {
		case api.KNum:
			v = value.Num(r.v.Num)
		case api.KStr:
			v = value.Str(r.v.Str)
		case api.KSym:
			v = value.Sym(r.v.Id)
		case api.KRef:
			v = value.Ref(r.v.Id)
		default:
			continue
		}
		if mark(v) != mark(r.v) {
			t.Errorf("%s: %v", r.text, v)
		}
	}
	for _, v := range nans() {
		if mark(value.Num(v.Num)) != mark(v) {
			t.Errorf("Num(%x): %v", math.Float64bits(v.Num), value.Num(v.Num))
		}
	}
}

func TestMakersOfNoValue(t *testing.T) {
	for _, s := range noStrings() {
		if v := value.Str(s); v != none {
			t.Errorf("Str(%q): %v", s, v)
		}
	}
	for _, n := range []int{0, -1, -65536, 65537, 1 << 32, 1<<32 + 1, math.MaxInt, math.MinInt} {
		if v := value.Sym(n); v != none {
			t.Errorf("Sym(%d): %v", n, v)
		}
		if v := value.Ref(n); v != none {
			t.Errorf("Ref(%d): %v", n, v)
		}
	}
}

func TestErrValue(t *testing.T) {
	good := []api.Value{num(1), str("a"), {Kind: 1}, ref(1)}
	for _, v := range wrongs() {
		for name, f := range map[string]func(a, b api.Value) (bool, api.Errno){"Same": value.Same, "SameZero": value.SameZero, "Strict": value.Strict} {
			for _, w := range append(good, v) {
				if yes, e := f(v, w); yes || e != api.ErrValue {
					t.Errorf("%s(%.60s, %.60s): %t, %d", name, mark(v), mark(w), yes, e)
				}
				if yes, e := f(w, v); yes || e != api.ErrValue {
					t.Errorf("%s(%.60s, %.60s): %t, %d", name, mark(w), mark(v), yes, e)
				}
			}
		}
		if yes, e := value.Truth(v); yes || e != api.ErrValue {
			t.Errorf("Truth(%.60s): %t, %d", mark(v), yes, e)
		}
		if s, e := value.Text(v); s != "" || e != api.ErrValue {
			t.Errorf("Text(%.60s): %.60q, %d", mark(v), s, e)
		}
		for at := range 4 {
			l := append([]api.Value{}, good[:at]...)
			l = append(append(l, v), good[at:]...)
			if out, e := value.Sort(l); len(out) != 0 || e != api.ErrValue {
				t.Errorf("Sort with %.60s at %d: %v, %d", mark(v), at, out, e)
			}
		}
		if out, e := value.Sort([]api.Value{v}); len(out) != 0 || e != api.ErrValue {
			t.Errorf("Sort of %.60s: %v, %d", mark(v), out, e)
		}
	}
}

// 3.2

type three struct{ same, zero, strict bool }

func holdAll(t *testing.T, a, b api.Value) three {
	same, e := value.Same(a, b)
	zero, f := value.SameZero(a, b)
	strict, g := value.Strict(a, b)
	if e != api.OK || f != api.OK || g != api.OK {
		t.Errorf("%s, %s: %d, %d, %d", mark(a), mark(b), e, f, g)
	}
	return three{same, zero, strict}
}

func TestEqualities(t *testing.T) {
	for _, c := range []struct {
		a, b api.Value
		want three
	}{
		{num(0), num(minus0), three{false, true, true}}, {num(minus0), num(0), three{false, true, true}},
		{num(minus0), num(minus0), three{true, true, true}}, {num(0), num(0), three{true, true, true}},
		{num(nan), num(nan), three{true, true, false}}, {num(nan), num(0), three{}}, {num(inf), num(-inf), three{}}, {num(inf), num(inf), three{true, true, true}},
		{num(1), num(math.Nextafter(1, 2)), three{}}, {num(5e-324), num(0), three{}}, {num(1), num(-1), three{}},
		{api.Value{Kind: 1}, api.Value{Kind: 2}, three{}}, {api.Value{Kind: 1}, api.Value{Kind: 1}, three{true, true, true}}, {api.Value{Kind: 2}, api.Value{Kind: 2}, three{true, true, true}},
		{num(1), str("1"), three{}}, {num(0), api.Value{Kind: 3}, three{}}, {str(""), num(0), three{}}, {api.Value{Kind: 2}, num(0), three{}}, {api.Value{Kind: 3, Bool: true}, num(1), three{}},
		{sym(1), ref(1), three{}}, {sym(1), sym(1), three{true, true, true}}, {ref(1), ref(2), three{}}, {sym(1), sym(2), three{}}, {sym(1), num(1), three{}}, {ref(1), num(1), three{}},
		{str("a"), str("A"), three{}}, {str("é"), str("e\u0301"), three{}}, {str("\xED\xA0\xBD"), str("\uFFFD"), three{}}, {str("NaN"), num(nan), three{}},
	} {
		if got := holdAll(t, c.a, c.b); got != c.want {
			t.Errorf("%s, %s: %v", mark(c.a), mark(c.b), got)
		}
	}
}

// Of all pairs: no two rows are the same, and each is the same as itself.
func TestEqualitiesOfAllPairs(t *testing.T) {
	for i, a := range rows() {
		for j, b := range rows() {
			same := i == j
			zero := same || a.v.Kind == 4 && b.v.Kind == 4 && a.v.Num == 0 && b.v.Num == 0
			strict := zero && a.text != "NaN"
			if got := holdAll(t, a.v, b.v); got != (three{same, zero, strict}) {
				t.Errorf("%s, %s: %v", a.text, b.text, got)
			}
		}
	}
	for _, a := range nans() {
		for _, b := range nans() {
			if got := holdAll(t, a, b); got != (three{true, true, false}) {
				t.Errorf("%x, %x: %v", math.Float64bits(a.Num), math.Float64bits(b.Num), got)
			}
		}
	}
}

// Strings are told from each other by their units, not by where they lie or how they begin.
func TestEqualitiesOfLongStrings(t *testing.T) {
	a, b := strings.Repeat("ab", 1000), strings.Repeat("abab", 500)
	if got := holdAll(t, str(a), str(b)); got != (three{true, true, true}) {
		t.Errorf("%v", got)
	}
	if got := holdAll(t, str(a+"c"), str(b+"d")); got != (three{}) {
		t.Errorf("%v", got)
	}
}

func TestTruth(t *testing.T) {
	for _, r := range rows() {
		if yes, e := value.Truth(r.v); yes != r.truth || e != api.OK {
			t.Errorf("Truth(%s): %t, %d", r.text, yes, e)
		}
	}
	for _, v := range nans() {
		if yes, e := value.Truth(v); yes || e != api.OK {
			t.Errorf("Truth(%x): %t, %d", math.Float64bits(v.Num), yes, e)
		}
	}
}

// 3.4

// must is what Must comes to: what it answers, or what it panics with.
func must(kind int, v api.Value) (out api.Value, thrown any) {
	defer func() { thrown = recover() }()
	return value.Must(kind, v), nil
}

func TestMust(t *testing.T) {
	values := wrongs()
	for _, r := range rows() {
		values = append(values, r.v)
	}
	for _, v := range append(values, nans()...) {
		for _, kind := range []int{math.MinInt, -1, 0, 1, 2, 3, 4, 5, 6, 7, 8, 1<<32 + 4, math.MaxInt, v.Kind} {
			got := 0
			if well(v) {
				got = v.Kind
			}
			out, thrown := must(kind, v)
			if well(v) && v.Kind == kind {
				if thrown != nil || mark(out) != mark(v) {
					t.Errorf("Must(%d, %.60s): %.60s, %v", kind, mark(v), mark(out), thrown)
				}
				continue
			}
			if w, ok := thrown.(*api.Wrong); !ok || *w != (api.Wrong{Want: kind, Got: got}) {
				t.Errorf("Must(%d, %.60s): %.60s, %v", kind, mark(v), mark(out), thrown)
			}
		}
	}
}

func TestMustOfTheChapter(t *testing.T) {
	_, thrown := must(api.KNum, value.Str("a"))
	if w, ok := thrown.(*api.Wrong); !ok || w.Want != 4 || w.Got != 5 {
		t.Errorf("%v", thrown)
	}
}

// 3.5

func sorted(t *testing.T, l []api.Value) []api.Value {
	out, e := value.Sort(l)
	if e != api.OK {
		t.Errorf("Sort: %d", e)
	}
	return out
}

func marks(l []api.Value) string {
	var b strings.Builder
	for _, v := range l {
		b.WriteString(mark(v) + "\n")
	}
	return b.String()
}

func TestSort(t *testing.T) {
	true3 := api.Value{Kind: 3, Bool: true}
	for _, c := range []struct{ l, want []api.Value }{
		{nil, nil}, {[]api.Value{}, nil}, {[]api.Value{num(1)}, []api.Value{num(1)}}, {[]api.Value{num(1), num(1), num(1)}, []api.Value{num(1)}},
		{[]api.Value{str("b"), num(2), num(minus0), num(0), true3, num(2)}, []api.Value{true3, num(minus0), num(0), num(2), str("b")}},
		{[]api.Value{num(0), num(minus0), num(0), num(minus0)}, []api.Value{num(minus0), num(0)}},
		{[]api.Value{num(nan), num(inf), num(-inf), num(nan)}, []api.Value{num(-inf), num(inf), num(nan)}},
		{[]api.Value{str("\uFFFF"), str("\U00010000")}, []api.Value{str("\U00010000"), str("\uFFFF")}},
		{[]api.Value{ref(10), ref(9), sym(10), sym(9)}, []api.Value{sym(9), sym(10), ref(9), ref(10)}},
	} {
		if out := sorted(t, c.l); marks(out) != marks(c.want) {
			t.Errorf("Sort of\n%s:\n%s", marks(c.l), marks(out))
		}
	}
}

func TestSortOfNotANumber(t *testing.T) {
	l := append(append([]api.Value{str("")}, nans()...), num(1))
	if out := sorted(t, l); marks(out) != marks([]api.Value{num(1), num(nan), str("")}) {
		t.Errorf("%s", marks(out))
	}
}

// Any values in any order, some of them often: the table's order, each once.
func TestSortDoesNotSeeTheOrder(t *testing.T) { // 3.6 too
	all := rows()
	r := rand.New(rand.NewSource(3))
	for n := range 3000 {
		seen := make([]bool, len(all))
		var l, want []api.Value
		for range r.Intn(1 + n%200) {
			i := r.Intn(len(all))
			seen[i] = true
			l = append(l, all[i].v)
		}
		for i, yes := range seen {
			if yes {
				want = append(want, all[i].v)
			}
		}
		if out := sorted(t, l); marks(out) != marks(want) {
			t.Fatalf("Sort of\n%s:\n%s", marks(l), marks(out))
		}
	}
}

func TestSortOfAllPairs(t *testing.T) {
	all := rows()
	for i, a := range all {
		for j, b := range all {
			want := []api.Value{all[min(i, j)].v}
			if i != j {
				want = append(want, all[max(i, j)].v)
			}
			if out := sorted(t, []api.Value{a.v, b.v}); marks(out) != marks(want) {
				t.Errorf("Sort of %s, %s:\n%s", a.text, b.text, marks(out))
			}
		}
	}
}

func TestSortOfManyStrings(t *testing.T) {
	r := rand.New(rand.NewSource(4))
	var l []api.Value
	for range 3000 {
		l = append(l, value.Str(units.Of(randomUnits(r, 6))))
	}
	out := sorted(t, l)
	for i := 1; i < len(out); i++ {
		if n, _ := units.Compare(out[i-1].Str, out[i].Str); n != -1 {
			t.Fatalf("%q stands ahead of %q", out[i-1].Str, out[i].Str)
		}
	}
	for _, v := range l {
		found := false
		for _, w := range out {
			found = found || v == w
		}
		if !found {
			t.Fatalf("%q is lost", v.Str)
		}
	}
}

// 3.6

func TestEquivalences(t *testing.T) {
	var l []api.Value
	for _, r := range rows()[2:20] {
		l = append(l, r.v)
	}
	l = append(append(l, nans()[:3]...), str(""), str("a"), str("a"), sym(1), ref(1))
	for _, a := range l {
		if got := holdAll(t, a, a); got != (three{true, true, a.Num == a.Num}) {
			t.Errorf("%s and itself: %v", mark(a), got)
		}
		for _, b := range l {
			ab := holdAll(t, a, b)
			if ba := holdAll(t, b, a); ab != ba {
				t.Errorf("%s, %s: %v, the other way round %v", mark(a), mark(b), ab, ba)
			}
			for _, c := range l {
				bc, ac := holdAll(t, b, c), holdAll(t, a, c)
				if ab.same && bc.same && !ac.same || ab.zero && bc.zero && !ac.zero || ab.strict && bc.strict && !ac.strict {
					t.Errorf("%s, %s, %s: %v, %v, but %v", mark(a), mark(b), mark(c), ab, bc, ac)
				}
			}
		}
	}
}
