package table_test

import (
	"math/rand"
	"slices"
	"strings"
	"testing"

	"cameo/api"
	"cameo/table"
)

// do does what a word says: +a puts a, -a deletes it, clear clears, compact compacts.
func do(x *table.Table, words string) {
	for _, s := range strings.Fields(words) {
		switch {
		case s == "clear":
			x.Clear()
		case s == "compact":
			x.Compact()
		case s[0] == '+':
			x.Put(named(s[1:]), mark(len(words)))
		default:
			x.Delete(named(s[1:]))
		}
	}
}

// 6.3
func TestWalks(t *testing.T) {
	for _, c := range []struct {
		begin string
		at    []string // what is done when the number i has come
		want  string
	}{
		{"", nil, ""},
		{"a", nil, "a"},
		{"b 2 a 1 @1", nil, "b 2 a 1 @1"},
		{"a b c", []string{"-b +d", "-a +a"}, "a c d a"}, // example 2
		{"a", []string{"clear +a"}, "a a"},               // example 3
		{"a b c", []string{"-a"}, "a b c"},
		{"a b c", []string{"-c"}, "a b"},
		{"a b c", []string{"-b -c"}, "a"},
		{"a b c", []string{"", "-a"}, "a b c"},
		{"a b c", []string{"", "-a -b -c"}, "a b"},
		{"a b c", []string{"", "-a -b -c +c"}, "a b c"},
		{"a b c", []string{"+a"}, "a b c"},
		{"a b c", []string{"+c +b"}, "a b c"},
		{"a b c", []string{"-b +b"}, "a c b"},
		{"a b c", []string{"-a +a", "", "", "-a +a"}, "a b c a a"},
		{"a b c", []string{"", "", "+d", "+e", "+f"}, "a b c d e f"},
		{"a b c", []string{"+d -d +d -d"}, "a b c"},
		{"a b c", []string{"clear"}, "a"},
		{"a b c", []string{"clear +c +b +a"}, "a c b a"},
		{"a b c", []string{"clear +z", "clear +y", "clear +x"}, "a z y x"},
		{"a b c", []string{"clear clear +b clear +c"}, "a c"},
		{"a b c", []string{"compact", "compact", "compact"}, "a b c"},
		{"a b c d", []string{"-a compact"}, "a b c d"},
		{"a b c d", []string{"-b compact +b"}, "a c d b"},
		{"a b c d", []string{"", "-a compact", "-b compact -d +d"}, "a b c d"},
		{"a b c d e f", []string{"", "", "-a -b -c compact", "-e compact", "+a compact"}, "a b c d f a"},
		{"a b c d e f", []string{"", "", "-a -b -c -d -e"}, "a b c f"},
		{"a b c d e f", []string{"-a -b -c -d -e"}, "a f"},
		{"a b", []string{"clear compact +a compact", "compact +b"}, "a a b"},
		{"@1 1 a", []string{"+0 +@2", "-@1 +@1"}, "@1 1 a 0 @2 @1"},
	} {
		x := table.New()
		fill(x, c.begin)
		var came []string
		for k := range x.Each() {
			came = append(came, name(k))
			if i := len(came) - 1; i < len(c.at) {
				do(x, c.at[i])
			}
		}
		if got := strings.Join(came, " "); got != c.want {
			t.Errorf("%s, %q: %s, not %s", c.begin, c.at, got, c.want)
		}
	}
}

// 6.3: a property comes with the descriptor that it has then.
func TestWalksTellWhatIsThereThen(t *testing.T) {
	x := table.New()
	fill(x, "a b c")
	var came []float64
	for k, d := range x.Each() {
		came = append(came, d.Value.Num)
		if k == str("a") {
			x.Put(str("a"), mark(70))
			x.Put(str("c"), mark(72))
		}
	}
	if !slices.Equal(came, []float64{0, 1, 72}) {
		t.Error(came)
	}
}

// 6.3: a walk is made, and begins when it is gone over.
func TestWalksBeginLate(t *testing.T) {
	x := table.New()
	walk := x.Each()
	all := func() string {
		var l []string
		for k := range walk {
			l = append(l, name(k))
		}
		return strings.Join(l, " ")
	}
	for _, c := range []struct{ words, want string }{
		{"", ""}, {"+a +b +c", "a b c"}, {"", "a b c"}, {"-a", "b c"}, {"+a compact", "b c a"}, {"clear", ""}, {"+c", "c"},
	} {
		do(x, c.words)
		if got := all(); got != c.want {
			t.Errorf("%s: %s, not %s", c.words, got, c.want)
		}
	}
}

// 6.3: a walk that is left at any place hands out nothing more, and begins at the front the next time.
func TestWalksAreLeft(t *testing.T) {
	x := table.New()
	fill(x, "a b c d")
	walk := x.Each()
	for stop := 1; stop <= 5; stop++ {
		var came []string
		for k := range walk {
			came = append(came, name(k))
			if len(came) == stop {
				break
			}
		}
		if got := strings.Join(came, " "); got != strings.Join(strings.Fields("a b c d")[:min(stop, 4)], " ") {
			t.Errorf("%d: %s", stop, got)
		}
	}
	calls := 0
	walk(func(api.Key, api.Desc) bool {
		calls++
		do(x, "clear +e +f")
		return false
	})
	if calls != 1 {
		t.Errorf("called %d times", calls)
	}
}

// 6.3: what is done to one table moves no walk over another.
func TestWalksOfClones(t *testing.T) {
	x := table.New()
	fill(x, "a b c d")
	x.Delete(str("a"))
	c := x.Clone()
	var came []string
	for k := range c.Each() {
		came = append(came, name(k))
		do(x, "clear +z +"+name(k))
		if len(came) == 1 {
			do(c, "-c +e")
		}
	}
	if got := strings.Join(came, " "); got != "b d e" {
		t.Error(got)
	}
}

// 6.3: a walk within itself: every pair comes.
func TestWalksWithinThemselves(t *testing.T) {
	x := table.New()
	fill(x, "a b c")
	walk := x.Each()
	var came []string
	for k := range walk {
		for l := range walk {
			came = append(came, name(k)+name(l))
		}
	}
	if got := strings.Join(came, " "); got != "aa ab ac ba bb bc ca cb cc" {
		t.Error(got)
	}
}

// walkBoth goes over a table and its model at once, with things done in the body, walks too; the walks must tell the same.
func (w *twin) walkBoth(depth int) {
	w.t.Helper()
	type turn struct {
		prop api.Prop
		last bool
	}
	told, left := make(chan turn), make(chan bool)
	go func() { // the model's walk: it waits at each property till the body is done
		w.m.each(func(k api.Key, d api.Desc) bool {
			told <- turn{prop: api.Prop{Key: k, Desc: d}}
			return <-left
		})
		told <- turn{last: true}
	}()
	limit, came := 12, 0
	for k, d := range w.x.Each() {
		want := <-told
		if want.last || !sameProp(want.prop, api.Prop{Key: k, Desc: d}) {
			w.t.Fatalf("%v, %v comes, not %v", k, d, want)
		}
		for range w.r.Intn(4) {
			w.step()
		}
		if depth > 0 && w.r.Intn(4) == 0 {
			w.walkBoth(depth - 1)
		}
		came++
		left <- came < limit
		if came == limit {
			break
		}
	}
	if want := <-told; !want.last {
		w.t.Fatalf("%v does not come", want.prop)
	}
}

// 6.3: walks at random, within one another, with all that may be done meanwhile.
func TestWalksAtRandom(t *testing.T) {
	r := rand.New(rand.NewSource(63))
	for range 1500 {
		w := &twin{t: t, r: r, x: table.New(), m: &model{}}
		for range r.Intn(25) {
			w.step()
		}
		w.walkBoth(2)
		agree(t, w.x, w.m)
	}
}

// played is all that a table answers to steps at random, with a walk among them; where compact says so, Compact stands between two steps.
func played(seed int64, compact func() bool) []string {
	r := rand.New(rand.NewSource(seed))
	x := table.New()
	var out []string
	tell := func(s string, p api.Prop, ok bool) {
		word := "no"
		if ok {
			word = name(p.Key) + "=" + string(rune('A'+int(p.Desc.Value.Num)%26))
		}
		out = append(out, s+" "+word)
	}
	step := func() {
		if compact() {
			x.Compact()
		}
		k := few[r.Intn(len(few))]
		switch r.Intn(8) {
		case 0, 1, 2:
			x.Put(k, mark(r.Intn(26)))
		case 3, 4:
			tell("delete", api.Prop{Key: k}, x.Delete(k))
		case 5:
			d, ok := x.Get(k)
			tell("get", api.Prop{Key: k, Desc: d}, ok)
		case 6:
			p, ok := x.At(r.Intn(6))
			tell("at", p, ok)
		default:
			out = append(out, names(x.Props()))
			for _, k := range x.Keys() {
				out = append(out, name(k))
			}
		}
	}
	for range r.Intn(40) {
		step()
	}
	come := 0
	for k, d := range x.Each() {
		tell("comes", api.Prop{Key: k, Desc: d}, true)
		for range r.Intn(5) {
			step()
		}
		if come++; come == 20 {
			break
		}
	}
	if compact() {
		x.Compact()
	}
	c := x.Clone()
	return append(out, names(x.Props()), names(c.Props()))
}

// 6.6
func TestCompactAnywhere(t *testing.T) {
	for seed := range int64(1500) {
		r := rand.New(rand.NewSource(-seed))
		never := played(seed, func() bool { return false })
		always := played(seed, func() bool { return true })
		sometimes := played(seed, func() bool { return r.Intn(3) == 0 })
		if !slices.Equal(never, always) || !slices.Equal(never, sometimes) {
			t.Fatalf("seed %d:\n%v\n%v\n%v", seed, never, always, sometimes)
		}
	}
}

// 6.3, 6.6: gaps by the thousand are closed under a walk, in front of it and behind it.
func TestGapsAreClosedUnderAWalk(t *testing.T) {
	x := table.New()
	for n := range 5000 {
		x.Put(sym(1+n), mark(n))
	}
	came := 0
	for k := range x.Each() {
		if k.Sym%10 != 1 || k.Sym != 1+10*came {
			t.Fatalf("%d: %v", came, k)
		}
		came++
		for n := k.Sym + 1; n < k.Sym+10; n++ { // what stands next
			x.Delete(sym(n))
		}
		if k.Sym > 100 { // what has come
			x.Delete(sym(k.Sym - 100))
		}
		if came == 300 {
			x.Compact()
		}
	}
	if came != 500 || x.Len() != 10 {
		t.Errorf("%d came, %d are left", came, x.Len())
	}
}
