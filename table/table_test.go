package table_test

import (
	"math"
	"math/rand"
	"slices"
	"strings"
	"testing"

	"cameo/api"
	"cameo/table"
)

// 6.1
func TestAnEmptyTable(t *testing.T) {
	x := table.New()
	agree(t, x, &model{})
	for _, k := range slices.Concat(few, wrong) {
		if d, ok := x.Get(k); ok || d != (api.Desc{}) {
			t.Errorf("Get(%v): %v, %v", k, d, ok)
		}
		if x.Delete(k) {
			t.Errorf("Delete(%v)", k)
		}
	}
	x.Clear()
	x.Compact()
	agree(t, x, &model{})
	agree(t, x.Clone(), &model{})
	if table.New() == x {
		t.Error("New answers one table twice")
	}
}

// 6.1
func TestPutGetDeleteClear(t *testing.T) {
	x, m := table.New(), &model{}
	for i, k := range few {
		if e := x.Put(k, mark(i)); e != api.OK {
			t.Fatalf("Put(%v): %d", k, e)
		}
		m.put(k, mark(i))
		agree(t, x, m)
	}
	for i, k := range few {
		if e := x.Put(k, mark(100+i)); e != api.OK {
			t.Fatalf("Put(%v) again: %d", k, e)
		}
		m.put(k, mark(100+i))
		agree(t, x, m)
	}
	for i, k := range few {
		if i%3 == 1 {
			continue
		}
		if !x.Delete(k) || x.Delete(k) {
			t.Fatalf("Delete(%v)", k)
		}
		if d, ok := x.Get(k); ok || d != (api.Desc{}) {
			t.Fatalf("Get(%v) behind Delete: %v, %v", k, d, ok)
		}
		m.delete(k)
		agree(t, x, m)
	}
	x.Clear()
	for _, k := range few {
		if _, ok := x.Get(k); ok || x.Delete(k) {
			t.Fatalf("%v is there behind Clear", k)
		}
	}
	agree(t, x, &model{})
	x.Put(str("z"), mark(1))
	agree(t, x, &model{props: []api.Prop{{Key: str("z"), Desc: mark(1)}}})
}

// 6.1: a string and a symbol are never one key, nor are two strings of one number.
func TestKeysThatLookAlike(t *testing.T) {
	x := table.New()
	fill(x, "1 01 1.0 @1 @10 10 +1 -0 0")
	if got := names(x.Props()); got != "1 01 1.0 @1 @10 10 +1 -0 0" {
		t.Error(got)
	}
	x.Put(str(""), mark(77))
	if d, ok := x.Get(api.Key{}); !ok || !same(d, mark(77)) {
		t.Error("the empty string is a key")
	}
}

// 6.1: what is not well formed is refused, and nothing changes.
func TestWrongKeys(t *testing.T) {
	for _, line := range []string{"", "a b @1", "2 a"} {
		x, m := table.New(), &model{}
		fill(x, line)
		for i, s := range strings.Fields(line) {
			m.put(named(s), mark(i))
		}
		for _, k := range wrong {
			if e := x.Put(k, mark(9)); e != api.ErrValue {
				t.Errorf("Put(%.20q, %d): %d", k.Str, k.Sym, e)
			}
			if d, ok := x.Get(k); ok || d != (api.Desc{}) {
				t.Errorf("Get(%.20q, %d): %v, %v", k.Str, k.Sym, d, ok)
			}
			if x.Delete(k) {
				t.Errorf("Delete(%.20q, %d)", k.Str, k.Sym)
			}
			agree(t, x, m)
		}
	}
}

// 6.1: a key of just MaxStr bytes, and the greatest symbol, are keys.
func TestTheLongestKey(t *testing.T) {
	x := table.New()
	for _, k := range []api.Key{str(strings.Repeat("a", api.MaxStr)), sym(api.MaxSyms)} {
		if e := x.Put(k, mark(1)); e != api.OK {
			t.Errorf("Put: %d", e)
		}
		if d, ok := x.Get(k); !ok || !same(d, mark(1)) {
			t.Errorf("Get: %v, %v", d, ok)
		}
	}
	if x.Len() != 2 {
		t.Error(x.Len())
	}
}

// oddDescs is descriptors of all sorts: well formed and not.
func oddDescs() []api.Desc {
	nan := math.Float64frombits(0x7FF8_0000_0000_0123)
	return []api.Desc{
		{},
		mark(1),
		{Get: api.Value{Kind: api.KRef, Id: 3}, Set: api.Value{Kind: api.KUndefined}, Enumerable: api.Yes, Configurable: api.No},
		{Value: api.Value{Kind: api.KNum, Num: nan}},
		{Value: api.Value{Kind: api.KNum, Num: math.Copysign(0, -1)}},
		{Value: api.Value{Kind: api.KStr, Str: "\xff\xfe"}},
		{Value: api.Value{Kind: api.KStr, Str: strings.Repeat("x", api.MaxStr+1)}},
		{Value: api.Value{Kind: -7, Bool: true, Num: 1, Str: "s", Id: -1}, Get: api.Value{Kind: 99, Str: "g"}, Set: api.Value{Num: math.Inf(-1), Str: "t"}, Writable: 77, Enumerable: -1, Configurable: 3},
		{Value: api.Value{Kind: api.KNull}, Writable: api.Yes, Get: api.Value{Kind: api.KRef, Id: 1}},
	}
}

// 6.1: any descriptor is handed back as it was, by every call.
func TestAnyDescriptorComesBack(t *testing.T) {
	for i, d := range oddDescs() {
		x, m := table.New(), &model{}
		x.Put(str("a"), mark(1))
		m.put(str("a"), mark(1))
		for _, k := range []api.Key{str("b"), sym(1), str("3"), str("a")} {
			if e := x.Put(k, d); e != api.OK {
				t.Fatalf("row %d: Put: %d", i, e)
			}
			m.put(k, d)
		}
		agree(t, x, m)
		agree(t, x.Clone(), m)
		x.Compact()
		agree(t, x, m)
	}
}

// 6.2
func TestKeysAreInTheirOrder(t *testing.T) {
	for _, c := range []struct{ line, props, keys string }{
		{"", "", ""},
		{"a", "a", "a"},
		{"b 2 a 1", "b 2 a 1", "1 2 b a"},
		{"@5 b @2 10 9 a @5 b", "@5 b @2 10 9 a", "9 10 b a @5 @2"},
		{"4294967295 4294967294 4294967293", "4294967295 4294967294 4294967293", "4294967293 4294967294 4294967295"},
		{"9007199254740991 01 -1 1.5 3 0", "9007199254740991 01 -1 1.5 3 0", "0 3 9007199254740991 01 -1 1.5"},
		{"@1 @3 @2 z y x 2 1 0", "@1 @3 @2 z y x 2 1 0", "0 1 2 z y x @1 @3 @2"},
	} {
		x := table.New()
		fill(x, c.line)
		var keys []string
		for _, k := range x.Keys() {
			keys = append(keys, name(k))
		}
		if got := names(x.Props()); got != c.props {
			t.Errorf("%s: Props %s", c.line, got)
		}
		if got := strings.Join(keys, " "); got != c.keys {
			t.Errorf("%s: Keys %s", c.line, got)
		}
	}
}

// 6.2: At, with gaps in front, between and behind.
func TestAt(t *testing.T) {
	for _, c := range []struct{ out, want string }{
		{"", "a b c d e f"}, {"a", "b c d e f"}, {"f", "a b c d e"}, {"c d", "a b e f"}, {"a c e", "b d f"}, {"a b c d e", "f"}, {"b c d e f", "a"}, {"a b c d e f", ""},
	} {
		x := table.New()
		fill(x, "a b c d e f")
		for _, s := range strings.Fields(c.out) {
			x.Delete(str(s))
		}
		want := strings.Fields(c.want)
		for i := -3; i < 10; i++ {
			p, ok := x.At(i)
			if in := i >= 0 && i < len(want); ok != in || in && p.Key.Str != want[i] || !in && p != (api.Prop{}) {
				t.Errorf("without %s: At(%d): %v, %v", c.out, i, p, ok)
			}
		}
	}
}

// 6.1, 6.2: example 1 of the chapter.
func TestExampleOfOrder(t *testing.T) {
	x := table.New()
	fill(x, "b 2 a 1")
	if got := names(x.Props()); got != "b 2 a 1" {
		t.Error(got)
	}
	if got := x.Keys(); !slices.Equal(got, []api.Key{str("1"), str("2"), str("b"), str("a")}) {
		t.Error(got)
	}
	x.Delete(str("2"))
	x.Put(str("2"), mark(5))
	if got := names(x.Props()); got != "b a 1 2" {
		t.Error(got)
	}
	x.Put(str("b"), mark(6))
	if p, ok := x.At(0); !ok || p.Key != str("b") || !same(p.Desc, mark(6)) {
		t.Error(p, ok)
	}
	if e := x.Put(api.Key{Str: "\xff"}, mark(0)); e != api.ErrValue { // example 4
		t.Error(e)
	}
}

// 6.4
func TestCompactIsNotSeen(t *testing.T) {
	for _, out := range []string{"", "a", "b", "f", "a c e", "b c d e f", "a b c d e f"} {
		x, m := table.New(), &model{}
		for i, s := range strings.Fields("a b c d e f") {
			x.Put(str(s), mark(i))
			m.put(str(s), mark(i))
		}
		for _, s := range strings.Fields(out) {
			x.Delete(str(s))
			m.delete(str(s))
		}
		x.Compact()
		agree(t, x, m)
		x.Compact()
		agree(t, x, m)
		x.Put(str("a"), mark(70))
		m.put(str("a"), mark(70))
		x.Put(str("new"), mark(71))
		m.put(str("new"), mark(71))
		agree(t, x, m)
	}
}

// 6.4: what is done to one is not seen by the other.
func TestClones(t *testing.T) {
	r := rand.New(rand.NewSource(64))
	for range 300 {
		w := &twin{t: t, r: r, x: table.New(), m: &model{}}
		for range r.Intn(30) {
			w.step()
		}
		v := &twin{t: t, r: r, x: w.x.Clone(), m: &model{props: slices.Clone(w.m.props)}}
		agree(t, v.x, v.m)
		for range 20 {
			one := w
			if r.Intn(2) == 0 {
				one = v
			}
			one.step()
			agree(t, w.x, w.m)
			agree(t, v.x, v.m)
		}
		u := v.x.Clone()
		w.x.Clear()
		agree(t, v.x, v.m)
		v.x.Clear()
		agree(t, u, v.m)
	}
}

// 6.4: a descriptor that is put anew in a clone, or in what was cloned, stays there.
func TestClonesDescriptors(t *testing.T) {
	x := table.New()
	fill(x, "a b")
	c := x.Clone()
	c.Put(str("a"), mark(50))
	x.Put(str("b"), mark(60))
	for _, row := range []struct {
		x    *table.Table
		k    string
		want int
	}{{x, "a", 0}, {x, "b", 60}, {c, "a", 50}, {c, "b", 1}} {
		if d, ok := row.x.Get(str(row.k)); !ok || !same(d, mark(row.want)) {
			t.Errorf("%s: %v", row.k, d)
		}
	}
}

// 6.5
func TestATableIsAMap(t *testing.T) {
	r := rand.New(rand.NewSource(65))
	for range 60 {
		w := &twin{t: t, r: r, x: table.New(), m: &model{}}
		for range 150 {
			w.step()
			agree(t, w.x, w.m)
		}
	}
}

// 6.5: many keys, most of which go again.
func TestManyKeys(t *testing.T) {
	r := rand.New(rand.NewSource(66))
	x, last := table.New(), map[api.Key]int{}
	for i := range 60000 {
		k := sym(1 + r.Intn(3000))
		if i%20000 > 14000 || r.Intn(2) == 0 {
			_, there := last[k]
			if x.Delete(k) != there {
				t.Fatalf("%d: Delete(%v)", i, k)
			}
			delete(last, k)
			continue
		}
		x.Put(k, mark(i))
		last[k] = i
	}
	if x.Len() != len(last) {
		t.Fatalf("Len: %d, not %d", x.Len(), len(last))
	}
	for k, i := range last {
		if d, ok := x.Get(k); !ok || !same(d, mark(i)) {
			t.Fatalf("Get(%v): %v, %v, not %d", k, d, ok, i)
		}
	}
	for i, p := range x.Props() {
		if got, ok := x.At(i); !ok || !sameProp(got, p) || !same(p.Desc, mark(last[p.Key])) {
			t.Fatalf("At(%d): %v, not %v", i, got, p)
		}
	}
}

// 6.7
func TestTakenOutAndPutAnew(t *testing.T) {
	r := rand.New(rand.NewSource(67))
	for range 300 {
		w := &twin{t: t, r: r, x: table.New(), m: &model{}}
		for range r.Intn(60) {
			w.step()
		}
		ahead := w.x.Props()
		for _, p := range ahead {
			if !w.x.Delete(p.Key) || w.x.Put(p.Key, p.Desc) != api.OK {
				t.Fatalf("%v is not there", p.Key)
			}
			if got, ok := w.x.At(len(ahead) - 1); !ok || !sameProp(got, p) {
				t.Fatalf("%v is not the last: %v", p.Key, got)
			}
		}
		if got := w.x.Props(); !slices.EqualFunc(got, ahead, sameProp) {
			t.Fatalf("%v, not %v", got, ahead)
		}
		agree(t, w.x, w.m)
	}
}
