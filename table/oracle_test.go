package table_test

// What the chapter's words say, written down a second time, by other means than the package has: a table is a list without gaps, and each walk that is under way has a list of its own, of what it has still to hand out.

import (
	"math"
	"math/rand"
	"slices"
	"strconv"
	"strings"
	"testing"

	"cameo/api"
	"cameo/table"
)

func str(s string) api.Key { return api.Key{Str: s} }
func sym(n int) api.Key    { return api.Key{Sym: n} }

// mark is a descriptor that is told from others by a number.
func mark(n int) api.Desc {
	return api.Desc{Value: api.Value{Kind: api.KNum, Num: float64(n)}, Writable: api.Yes, Enumerable: api.No, Configurable: api.Yes}
}

// model is the second reading of a table.
type model struct {
	props []api.Prop
	walks []*[]api.Key // of each walk that is under way, what it has still to hand out
}

func (m *model) find(k api.Key) int {
	return slices.IndexFunc(m.props, func(p api.Prop) bool { return p.Key == k })
}

func (m *model) get(k api.Key) (api.Desc, bool) {
	if i := m.find(k); i >= 0 {
		return m.props[i].Desc, true
	}
	return api.Desc{}, false
}

func (m *model) put(k api.Key, d api.Desc) {
	if i := m.find(k); i >= 0 {
		m.props[i].Desc = d
		return
	}
	m.props = append(m.props, api.Prop{Key: k, Desc: d})
	for _, w := range m.walks {
		*w = append(*w, k)
	}
}

func (m *model) delete(k api.Key) bool {
	i := m.find(k)
	if i < 0 {
		return false
	}
	m.props = slices.Delete(m.props, i, i+1)
	for _, w := range m.walks {
		*w = slices.DeleteFunc(*w, func(x api.Key) bool { return x == k })
	}
	return true
}

func (m *model) clear() {
	for _, k := range m.order() {
		m.delete(k)
	}
}

// order is the keys as they came.
func (m *model) order() []api.Key {
	var l []api.Key
	for _, p := range m.props {
		l = append(l, p.Key)
	}
	return l
}

// keys is indices by their size, then strings, then symbols, as they came.
func (m *model) keys() []api.Key {
	l := m.order()
	rank := func(k api.Key) int {
		if n, err := strconv.ParseUint(k.Str, 10, 64); err == nil && n < 1<<32-1 && k.Str == strconv.FormatUint(n, 10) {
			return int(n)
		}
		if k.Sym == 0 {
			return 1 << 40
		}
		return 1 << 41
	}
	slices.SortStableFunc(l, func(a, b api.Key) int { return rank(a) - rank(b) })
	return l
}

// each is a walk over the model; what is done within it goes by the same model.
func (m *model) each(body func(api.Key, api.Desc) bool) {
	left := m.order()
	m.walks = append(m.walks, &left)
	for len(left) > 0 {
		k := left[0]
		left = left[1:]
		d, _ := m.get(k)
		if !body(k, d) {
			break
		}
	}
	m.walks = m.walks[:len(m.walks)-1]
}

// same is whether two descriptors are one, bit by bit.
func same(a, b api.Desc) bool {
	bits := func(d *api.Desc) [3]uint64 {
		out := [3]uint64{math.Float64bits(d.Value.Num), math.Float64bits(d.Get.Num), math.Float64bits(d.Set.Num)}
		d.Value.Num, d.Get.Num, d.Set.Num = 0, 0, 0
		return out
	}
	return bits(&a) == bits(&b) && a == b
}

func sameProp(a, b api.Prop) bool { return a.Key == b.Key && same(a.Desc, b.Desc) }

// agree holds all that a table tells against the model.
func agree(t *testing.T, x *table.Table, m *model) {
	t.Helper()
	if x.Len() != len(m.props) {
		t.Fatalf("Len: %d, not %d", x.Len(), len(m.props))
	}
	if got := x.Props(); !slices.EqualFunc(got, m.props, sameProp) {
		t.Fatalf("Props: %v, not %v", got, m.props)
	}
	if got := x.Keys(); !slices.Equal(got, m.keys()) {
		t.Fatalf("Keys: %v, not %v", got, m.keys())
	}
	var walked []api.Prop
	for k, d := range x.Each() {
		walked = append(walked, api.Prop{Key: k, Desc: d})
	}
	if !slices.EqualFunc(walked, m.props, sameProp) {
		t.Fatalf("Each: %v, not %v", walked, m.props)
	}
	for i, p := range m.props {
		if got, ok := x.At(i); !ok || !sameProp(got, p) {
			t.Fatalf("At(%d): %v, %v, not %v", i, got, ok, p)
		}
		if got, ok := x.Get(p.Key); !ok || !same(got, p.Desc) {
			t.Fatalf("Get(%v): %v, %v, not %v", p.Key, got, ok, p.Desc)
		}
	}
	for _, i := range []int{-1, len(m.props), len(m.props) + 1, math.MinInt, math.MaxInt} {
		if got, ok := x.At(i); ok || got != (api.Prop{}) {
			t.Fatalf("At(%d) of %d: %v, %v", i, len(m.props), got, ok)
		}
	}
}

// few is keys of all kinds, so few that they meet again and again.
var few = []api.Key{
	str("a"), str("b"), str("c"), str(""), str("0"), str("7"), str("10"), str("4294967294"), str("4294967295"), str("07"), str("-0"), str("\xed\xa0\x80"),
	sym(1), sym(2), sym(7), sym(1 << 16),
}

// wrong is keys that are not well formed.
var wrong = []api.Key{
	{Str: "\xff"}, {Str: "a\xc3"}, {Str: "\xc0\x80"}, {Str: "\xf4\x90\x80\x80"}, {Str: "\xed\xa0\xbd\xed\xb8\x80"},
	{Sym: -1}, {Sym: math.MinInt}, {Sym: api.MaxSyms + 1}, {Sym: math.MaxInt}, {Str: "a", Sym: 1}, {Str: "\xff", Sym: 1},
	{Str: strings.Repeat("a", api.MaxStr+1)}, {Str: "\xff", Sym: api.MaxSyms + 1},
}

// names is the keys of a list of properties, in one line.
func names(l []api.Prop) string {
	var out []string
	for _, p := range l {
		out = append(out, name(p.Key))
	}
	return strings.Join(out, " ")
}

func name(k api.Key) string {
	if k.Sym != 0 {
		return "@" + strconv.Itoa(k.Sym)
	}
	return k.Str
}

// fill puts string keys, or symbols by @ and their numbers, each with a mark of its own.
func fill(x *table.Table, line string) {
	for i, s := range strings.Fields(line) {
		x.Put(named(s), mark(i))
	}
}

func named(s string) api.Key {
	if n, err := strconv.Atoi(strings.TrimPrefix(s, "@")); err == nil && s[0] == '@' {
		return sym(n)
	}
	return str(s)
}

// twin is a table, and the model beside it; each step is done to both, and what they answer must agree.
type twin struct {
	t *testing.T
	r *rand.Rand
	x *table.Table
	m *model
	n int // descriptors that have been put
}

// step does one thing at random: no walk.
func (w *twin) step() {
	w.t.Helper()
	k := few[w.r.Intn(len(few))]
	switch c := w.r.Intn(40); {
	case c < 16:
		w.n++
		if e := w.x.Put(k, mark(w.n)); e != api.OK {
			w.t.Fatalf("Put(%v): %d", k, e)
		}
		w.m.put(k, mark(w.n))
	case c < 30:
		if got, want := w.x.Delete(k), w.m.delete(k); got != want {
			w.t.Fatalf("Delete(%v): %v", k, got)
		}
	case c < 34:
		got, ok := w.x.Get(k)
		if want, there := w.m.get(k); ok != there || !same(got, want) {
			w.t.Fatalf("Get(%v): %v, %v, not %v, %v", k, got, ok, want, there)
		}
	case c < 36:
		w.x.Compact()
	case c < 37:
		w.x.Clear()
		w.m.clear()
	case c < 38:
		bad := wrong[w.r.Intn(len(wrong))]
		if e := w.x.Put(bad, mark(0)); e != api.ErrValue {
			w.t.Fatalf("Put(%v): %d", bad, e)
		}
	default:
		if got := w.x.Props(); !slices.EqualFunc(got, w.m.props, sameProp) {
			w.t.Fatalf("Props: %v, not %v", got, w.m.props)
		}
	}
}
