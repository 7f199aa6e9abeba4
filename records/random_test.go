package records_test

// Objects and acts at random: both readings answer the same, cost the same, and leave the same (17.1 to 17.6); and with more fuel nothing is otherwise.

import (
	"math/rand"
	"slices"
	"testing"

	"cameo/api"
	"cameo/args"
	"cameo/array"
	"cameo/call"
	"cameo/heap"
	"cameo/strobj"
)

// chance makes things up at random, over a heap of so many objects.
type chance struct {
	*rand.Rand
	objects int
}

func newChance(seed int64) *chance { return &chance{Rand: rand.New(rand.NewSource(seed))} }

func pick[T any](c *chance, l ...T) T { return l[c.Intn(len(l))] }

func (c *chance) ref() api.Value { return ref(1 + c.Intn(c.objects)) }

func (c *chance) plain() api.Value {
	return pick(c, undefined(), null(), yes(), no(), num(0), num(1), num(2), num(3), num(below0), num(nan), num(2.5), num(-1), num(1024), num(1025), num(endless),
		text(""), text("a"), text("2"), text("f"), text("\xed\xa0\xbd"), text("\U0001f600"), symbol(1), symbol(9))
}

func (c *chance) value() api.Value {
	if c.Intn(2) == 0 {
		return c.ref()
	}
	return c.plain()
}

func (c *chance) values(most int) []api.Value {
	var l []api.Value
	for range c.Intn(most + 1) {
		l = append(l, c.value())
	}
	return l
}

func (c *chance) key() api.Key {
	switch c.Intn(4) {
	case 0, 1:
		return str(pick(c, names()...))
	case 2:
		return pick(c, str("length"), str("length"), at(0), at(1), at(2))
	}
	return pick(c, str("constructor"), str("constructor"), sym(9), sym(9), str("valueOf"), str("f"), str("f"))
}

// The objects that build makes.
const (
	ordinaries = 4  // 1 to 4
	classN     = 5  // a constructor
	firstBody  = 6  // functions of operations, 6 to 10
	firstPlay  = 11 // natives in which acts are played, 11 and 12
	arrayN     = 13
	stringN    = 14
	argsN      = 15
	roomFor    = 30
)

func (c *chance) function() api.Value { return ref(pick(c, classN, firstBody+c.Intn(7))) }

// told is what may lie under a key: mostly what fits there.
func (c *chance) told(k api.Key) api.Value {
	if c.Intn(4) == 0 {
		return c.value()
	}
	switch k {
	case str("get"), str("set"):
		return pick(c, undefined(), c.function())
	case str("length"):
		return num(float64(c.Intn(4)))
	case at(0), at(1), at(2):
		return pick(c, text("a"), symbol(3), c.plain())
	case str("constructor"):
		return c.ref()
	case sym(9):
		return pick(c, ref(classN), undefined(), null())
	case str("f"), str("valueOf"):
		return c.function()
	}
	return c.plain()
}

// lie is a descriptor for a key, by functions that are there already.
func (c *chance) lie(k api.Key, functions []api.Value) api.Desc {
	tri := func() api.Tri { return pick(c, api.Yes, api.Yes, api.Yes, api.No, api.Absent) }
	if c.Intn(4) == 0 {
		return api.Desc{Get: pick(c, append(functions, undefined())...), Set: pick(c, append(functions, undefined())...), Enumerable: tri(), Configurable: tri()}
	}
	return api.Desc{Value: c.told(k), Writable: tri(), Enumerable: tri(), Configurable: tri()}
}

// body is what a function does: it answers something, ends otherwise, or changes what it is asked of.
func (c *chance) body() []api.Op {
	const this, with, other, gone = 0, 1, 2, 3
	k := c.key()
	l := []api.Op{{Code: api.OThis, To: this}, {Code: api.OConst, To: with, Val: c.told(k)}, {Code: api.OConst, To: gone, Val: c.value()}}
	give := api.Op{Code: api.OReturn, A: pick(c, this, with, with, gone, gone)}
	switch c.Intn(13) {
	case 0:
		return []api.Op{{Code: api.OArg}, {Code: api.OReturn}}
	case 1:
		return append(l, api.Op{Code: api.OThrow, A: pick(c, this, with, gone)})
	case 2:
		return append(l, api.Op{Code: api.OSet, To: other, A: this, B: with, Key: k, Catch: true}, give)
	case 3, 4:
		return append(l, api.Op{Code: api.ODefine, To: other, A: this, B: with, Key: k, Flag: true, Desc: api.Desc{Configurable: api.Yes}, Catch: true}, give)
	case 5, 6:
		return append(l, api.Op{Code: api.ODelete, To: other, A: this, Key: k, Catch: true}, give)
	case 7:
		return append(l, api.Op{Code: api.OGet, To: gone, A: this, Key: k, Catch: c.Intn(2) == 0}, give)
	case 8:
		return append(l, api.Op{Code: api.OReproto, To: other, A: this, B: with, Catch: true}, give)
	case 9:
		return append(l, api.Op{Code: api.OPrevent, To: other, A: this, Catch: true}, give)
	}
	return append(l, give)
}

// broke is the act with something wrong in it.
func (c *chance) broke(x act) act {
	switch c.Intn(6) {
	case 0:
		x.v = pick(c, append(broken(), strangers()...)...)
	case 1:
		x.k = pick(c, brokenKeys()...)
	case 2:
		x.o = pick(c, 0, -1, 300, 1<<40)
	case 3:
		x.d = pick(c, append(brokenDescs(), api.Desc{Value: ref(300)}, api.Desc{Get: ref(65536)})...)
	case 4:
		x.args = append(x.args, pick(c, append(broken(), strangers()...)...))
	case 5:
		x.args = slices.Repeat([]api.Value{pick(c, num(1), num(1), ref(300))}, 1025)
	}
	return x
}

// act is one of the package's calls, mostly of what it can be called with.
func (c *chance) act() act {
	o := pick(c, 1, 2, 3, 4, 1+c.Intn(c.objects))
	x := act{name: pick(c, append(all(), "To", "To", "List", "Keys", "Species")...), o: o, v: ref(o), k: c.key(), proto: pick(c, null(), c.ref()), args: c.values(3)}
	d := c.lie(x.k, []api.Value{c.function(), c.value()})
	x.d = pick(c, d, api.Desc{Value: d.Value}, api.Desc{Get: d.Get, Enumerable: d.Enumerable}, api.Desc{Set: d.Set, Configurable: d.Configurable})
	switch x.name {
	case "Create", "Put", "Species":
		x.v = pick(c, c.value(), c.told(x.k))
	case "Invoke":
		x.k = pick(c, x.k, str("f"), str("f"))
	}
	if c.Intn(12) == 0 {
		x.v = c.plain()
	}
	if c.Intn(12) == 0 {
		x.proto = c.plain()
	}
	if c.Intn(10) == 0 {
		return c.broke(x)
	}
	return x
}

// reading is how an act is played: by the package, or by the second reading.
type reading func(h *heap.Heap, x act) (string, error)

func byPackage(h *heap.Heap, x act) (string, error) { return x.played(h) }

func bySecond(h *heap.Heap, x act) (string, error) { return second{h}.played(x) }

// player is a native in which an act is played, of the receiver or of another object; what it throws is thrown.
func player(t *testing.T, h *heap.Heap, c *chance, read reading) {
	t.Helper()
	c.objects = argsN
	x, answer := c.act(), c.value()
	c.objects = h.Len()
	addNative(t, h, func(this api.Value, given []api.Value) (api.Value, error) {
		y := x
		if len(given) == 0 && this.Kind == api.KRef {
			y.v, y.o = this, this.Id
		}
		if _, err := read(h, y); err != nil {
			return api.Value{}, err
		}
		return answer, nil
	})
}

// build is a heap. What is made up hangs on the seed alone.
func build(t *testing.T, seed int64, depth int, read reading) (*heap.Heap, *chance) {
	t.Helper()
	c, h := newChance(seed), newHeap(t, roomFor, 1<<20, depth)
	add := func(want int) func(n int, err error) {
		return func(n int, err error) {
			t.Helper()
			if err != nil || n != want {
				t.Fatal(n, want, err)
			}
			c.objects = n
		}
	}
	for n := 1; n <= ordinaries; n++ {
		proto := null()
		if n > 1 && c.Intn(2) == 0 {
			proto = c.ref()
		}
		add(n)(h.Make(proto))
	}
	add(classN)(call.New(h, null(), nil, true))
	var functions []api.Value
	for n := firstBody; n < firstPlay; n++ {
		body := c.body()
		for !call.Sound(body) || slices.ContainsFunc(body, func(x api.Op) bool { return h.Check(x.Val) == api.ErrRef }) {
			body = c.body()
		}
		add(n)(call.New(h, null(), body, c.Intn(4) == 0))
		functions = append(functions, ref(n))
	}
	for range 2 {
		player(t, h, c, read)
		functions = append(functions, ref(h.Len()))
	}
	c.objects = h.Len()
	add(arrayN)(array.Of(h, null(), c.values(3)))
	add(stringN)(strobj.New(h, null(), pick(c, "", "ab", "\U0001f600")))
	add(argsN)(args.Mapped(h, null(), c.values(3), []string{"p", "q"}, undefined()))
	h.DefineOwnProperty(1+c.Intn(ordinaries), str("f"), open(c.function()))
	for range 10 + c.Intn(15) {
		k := c.key()
		h.DefineOwnProperty(pick(c, 1+c.Intn(ordinaries), 1+c.Intn(ordinaries), c.ref().Id), k, c.lie(k, functions))
	}
	return h, c
}

// came is how acts of one name have ended.
type came struct{ answers, throws, stops int }

func (m *came) count(err error) {
	switch err.(type) {
	case nil:
		m.answers++
	case *api.Thrown:
		m.throws++
	default:
		m.stops++
	}
}

func TestTwoReadings(t *testing.T) {
	t.Parallel()
	met := map[string]*came{}
	for _, s := range all() {
		met[s] = &came{}
	}
	for seed := range int64(6000) {
		depth := []int{1, 2, 3, 5, 12}[seed%5]
		one, c := build(t, seed, depth, byPackage)
		two, _ := build(t, seed, depth, bySecond)
		for n := range 15 {
			c.objects = one.Len()
			x, fuel := c.act(), pick(c, c.Intn(10), c.Intn(80), 80)
			one.Refuel(fuel)
			two.Refuel(fuel)
			v, err := byPackage(one, x)
			w, wrong := bySecond(two, x)
			if v != w || !sameError(err, wrong) || one.Fuel() != two.Fuel() {
				t.Fatalf("seed %d, act %d: %v: %s, %v with %d left, want %s, %v with %d", seed, n, x, v, err, one.Fuel(), w, wrong, two.Fuel())
			}
			if !sameShapes(one.Shapes(), two.Shapes()) {
				t.Fatalf("seed %d, act %d: %v: %v, want %v", seed, n, x, one.Shapes(), two.Shapes())
			}
			met[x.name].count(err)
		}
	}
	for s, m := range met {
		if m.answers < 500 || m.stops < 200 || s != "From" && m.throws < 200 {
			t.Errorf("%s: %v", s, *m)
		}
	}
}

// W7: with more fuel nothing is otherwise; with less it stops, having spent all.
func TestMoreFuel(t *testing.T) {
	t.Parallel()
	for seed := range int64(1500) {
		play := func(fuel int) (string, error, int, []api.Shape) {
			h, c := build(t, seed, 8, byPackage)
			x := c.act()
			h.Refuel(fuel)
			v, err := x.played(h)
			return v, err, fuel - h.Fuel(), h.Shapes()
		}
		v, err, spent, shapes := play(1 << 20)
		for fuel := range min(spent+3, 50) {
			w, wrong, less, after := play(fuel)
			if fuel < spent && (w != "" || wrong != api.ErrFuel || less != fuel) {
				t.Fatalf("W7: seed %d, fuel %d of %d: %s, %v, %d spent", seed, fuel, spent, w, wrong, less)
			}
			if fuel >= spent && (w != v || !sameError(wrong, err) || less != spent || !sameShapes(after, shapes)) {
				t.Fatalf("W7: seed %d, fuel %d of %d: %s, %v, %d spent; want %s, %v", seed, fuel, spent, w, wrong, less, v, err)
			}
		}
	}
}
