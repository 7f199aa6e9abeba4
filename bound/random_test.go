package bound_test

// Functions, bindings and acts at random: both readings answer the same, cost the same, and leave the same (18.1 to 18.6); and with more fuel nothing is otherwise.

import (
	"math/rand"
	"slices"
	"testing"

	"cameo/api"
	"cameo/call"
	"cameo/heap"
)

// chance makes things up at random, over a heap of so many objects.
type chance struct {
	*rand.Rand
	objects int
}

func newChance(seed int64) *chance { return &chance{Rand: rand.New(rand.NewSource(seed))} }

func pick[T any](c *chance, l ...T) T { return l[c.Intn(len(l))] }

func (c *chance) ref() api.Value { return ref(1 + c.Intn(c.objects)) }

func (c *chance) plain() api.Value {
	return pick(c, undefined(), null(), yes(), no(), num(0), num(1), num(2), num(3), num(below0), num(nan), num(2.5), num(-1), num(endless), num(-endless), num(1<<53+2),
		text(""), text("a"), text("2"), text("f"), text("\xed\xa0\xbd"), text("\U0001f600"), symbol(1), symbol(2))
}

func (c *chance) value() api.Value {
	if c.Intn(2) == 0 {
		return c.ref()
	}
	return c.plain()
}

func (c *chance) values(most int) []api.Value {
	var l []api.Value
	for range c.Intn(most + 1) {
		l = append(l, c.value())
	}
	return l
}

func (c *chance) key() api.Key {
	return pick(c, str("length"), str("length"), str("name"), str("name"), str("prototype"), str("prototype"), sym(api.SymHasInstance), str("a"))
}

// The objects that build makes.
const (
	ordinaries = 4  // 1 to 4
	firstClass = 5  // constructors, 5 to 7
	firstBody  = 8  // functions that are none, 8 to 10
	firstPlay  = 11 // natives in which acts are played, 11 and 12; what stands behind them is bound
	roomFor    = 40
)

// function is one of the functions, or of what is bound.
func (c *chance) function() int { return firstClass + c.Intn(max(1, c.objects-firstClass+1)) }

// fits is what may lie under a key: mostly what fits there.
func (c *chance) fits(k api.Key) api.Value {
	if c.Intn(4) == 0 {
		return c.value()
	}
	switch k {
	case str("length"):
		return num(pick(c, 0, 1, 2, 3, 4, 5.5, -2, below0, nan, endless, -endless, 1<<53+2, 1e300))
	case str("name"):
		return text(pick(c, "", "f", "g", "bound x", "\xed\xb8\x80"))
	case str("prototype"):
		return ref(1 + c.Intn(min(ordinaries, c.objects)))
	case sym(api.SymHasInstance):
		return pick(c, undefined(), null(), ref(min(c.function(), c.objects)))
	}
	return c.plain()
}

// lie is a descriptor for a key, by functions that are there already.
func (c *chance) lie(k api.Key, functions []api.Value) api.Desc {
	tri := func() api.Tri { return pick(c, api.Yes, api.Yes, api.Yes, api.No, api.Absent) }
	if c.Intn(4) == 0 {
		return api.Desc{Get: pick(c, append(functions, undefined())...), Set: pick(c, append(functions, undefined())...), Enumerable: tri(), Configurable: tri()}
	}
	return api.Desc{Value: c.fits(k), Writable: tri(), Enumerable: tri(), Configurable: tri()}
}

// body is what a function does: it answers something, ends otherwise, changes what it is asked of, or calls others.
func (c *chance) body() []api.Op {
	const this, with, other, gone = 0, 1, 2, 3
	k := c.key()
	l := []api.Op{{Code: api.OThis, To: this}, {Code: api.OConst, To: with, Val: c.fits(k)}, {Code: pick(c, api.OArg, api.OTarget, api.OSelf), To: gone, A: c.Intn(3)}}
	give := api.Op{Code: api.OReturn, A: pick(c, this, with, gone, other)}
	catch := c.Intn(2) == 0
	switch c.Intn(15) {
	case 0:
		return []api.Op{{Code: api.OArg, A: c.Intn(4)}, {Code: api.OReturn}}
	case 1, 14:
		return append(l, api.Op{Code: api.OThrow, A: pick(c, this, with, gone)})
	case 2:
		return append(l, api.Op{Code: api.OSet, To: other, A: this, B: with, Key: k, Catch: true}, give)
	case 3, 4:
		return append(l, api.Op{Code: api.ODefine, To: other, A: this, B: with, Key: k, Flag: true, Desc: api.Desc{Configurable: api.Yes}, Catch: true}, give)
	case 5, 6:
		return append(l, api.Op{Code: api.ODelete, To: other, A: this, Key: k, Catch: true}, give)
	case 7:
		return append(l, api.Op{Code: api.OReproto, To: other, A: this, B: with, Catch: true}, give)
	case 8:
		return append(l, api.Op{Code: api.OCall, To: other, A: gone, B: this, C: with, Catch: catch}, give)
	case 9:
		return append(l, api.Op{Code: api.ONew, To: other, A: gone, B: with, Catch: catch}, give)
	}
	return append(l, give)
}

// broke is the act with something wrong in it.
func (c *chance) broke(x act) act {
	wrong := pick(c, append(broken(), strangers()...)...)
	switch c.Intn(6) {
	case 0:
		x.v = wrong
	case 1:
		x.c = wrong
	case 2:
		x.f = pick(c, nobody()...)
	case 3:
		x.this = wrong
	case 4:
		x.args = append(slices.Clone(x.args), wrong)
	case 5:
		x.args = slices.Repeat([]api.Value{pick(c, num(1), num(1), wrong)}, 1025)
	}
	return x
}

// acts is the names of all acts.
func acts() []string {
	return append(faces(), "Call", "Construct", "Define", "Set", "Delete", "SetPrototypeOf", "PreventExtensions")
}

// act is one of them, mostly of what it can be done with.
func (c *chance) act() act {
	f := min(c.function(), c.objects)
	x := act{name: pick(c, append(acts(), "Bind", "Bind", "InstanceOf", "InstanceOf", "HasInstance", "HasInstance", "Call", "Construct", "Construct")...),
		f: f, this: c.value(), args: c.values(3), v: pick(c, c.ref(), c.ref(), c.value()), c: ref(min(c.function(), c.objects)), target: pick(c, f, f, min(c.function(), c.objects)), k: c.key()}
	x.d = c.lie(x.k, []api.Value{ref(min(c.function(), c.objects)), c.value()})
	switch x.name {
	case "Set", "SetPrototypeOf":
		x.v = pick(c, null(), c.ref(), c.fits(x.k))
	case "Bind":
		x.f = pick(c, f, f, f, c.ref().Id)
	case "InstanceOf", "HasInstance":
		x.c = pick(c, x.c, x.c, ref(pick(c, firstClass, firstClass+1)), c.value())
	case "PreventExtensions":
		if c.Intn(4) != 0 {
			x.name = "Target"
		}
	}
	if c.Intn(10) == 0 {
		return c.broke(x)
	}
	return x
}

// reading is how an act is played: by the package, or by the second reading.
type reading func(h *heap.Heap, x act) (string, error)

func byPackage(h *heap.Heap, x act) (string, error) { return x.played(h) }

func bySecond(h *heap.Heap, x act) (string, error) { return second{h}.played(x) }

// player is a native in which an act is played, of what it is given or of something else; what it throws is thrown.
func player(t *testing.T, h *heap.Heap, c *chance, read reading) {
	t.Helper()
	c.objects = h.Len()
	x, answer := c.act(), c.ref()
	addNative(t, h, func(this api.Value, given []api.Value) (api.Value, error) {
		y := x
		if len(given) > 0 {
			y.v = given[0]
		}
		if this.Kind == api.KRef && h.Callable(this) {
			y.f, y.c = this.Id, this
		}
		if _, err := read(h, y); err != nil {
			return api.Value{}, err
		}
		return answer, nil
	})
}

// build is a heap. What is made up hangs on the seed alone.
func build(t *testing.T, seed int64, depth int, read reading) (*heap.Heap, *chance) {
	t.Helper()
	c, h := newChance(seed), newHeap(t, roomFor, 1<<20, depth)
	for n := 1; n <= ordinaries; n++ {
		proto := null()
		if n > 1 && c.Intn(2) == 0 {
			proto = c.ref()
		}
		c.objects = made(t, h, proto)
	}
	var functions []api.Value
	for n := firstClass; n < firstPlay; n++ {
		body := c.body()
		for !call.Sound(body) || slices.ContainsFunc(body, func(x api.Op) bool { return h.Check(x.Val) == api.ErrRef }) {
			body = c.body()
		}
		f, err := call.New(h, pick(c, null(), ref(1)), body, n < firstBody)
		if f != n || err != nil {
			t.Fatal(f, err)
		}
		functions, c.objects = append(functions, ref(n)), n
	}
	for range 2 {
		player(t, h, c, read)
		functions = append(functions, ref(h.Len()))
	}
	for range 6 {
		c.objects = h.Len()
		k := c.key()
		h.DefineOwnProperty(c.function(), k, c.lie(k, functions))
	}
	for range 2 + c.Intn(4) {
		c.objects = h.Len()
		h.Refuel(30)
		read(h, binds(c.function(), c.value(), c.values(3)...))
	}
	c.objects = h.Len()
	for n := firstClass; n < firstBody; n++ {
		if c.Intn(4) != 0 {
			h.Refuel(1)
			h.DefineOwnProperty(n, str("prototype"), open(ref(1+c.Intn(ordinaries))))
		}
	}
	h.Refuel(1 << 20)
	for range 6 + c.Intn(10) {
		k := c.key()
		h.DefineOwnProperty(pick(c, c.function(), c.ref().Id), k, c.lie(k, functions))
	}
	return h, c
}

// came is how acts of one name have ended.
type came struct{ answers, throws, stops int }

func (m *came) count(err error) {
	switch err.(type) {
	case nil:
		m.answers++
	case *api.Thrown:
		m.throws++
	default:
		m.stops++
	}
}

func TestTwoReadings(t *testing.T) {
	t.Parallel()
	met, instances := map[string]*came{}, 0
	for _, s := range acts() {
		met[s] = &came{}
	}
	for seed := range int64(6000) {
		depth := []int{1, 2, 3, 5, 12}[seed%5]
		one, c := build(t, seed, depth, byPackage)
		two, _ := build(t, seed, depth, bySecond)
		for n := range 15 {
			c.objects = one.Len()
			x, fuel := c.act(), pick(c, c.Intn(10), c.Intn(80), 80)
			one.Refuel(fuel)
			two.Refuel(fuel)
			v, err := byPackage(one, x)
			w, wrong := bySecond(two, x)
			if v != w || !sameError(err, wrong) || one.Fuel() != two.Fuel() {
				t.Fatalf("seed %d, act %d: %v: %s, %v with %d left, want %s, %v with %d", seed, n, x, v, err, one.Fuel(), w, wrong, two.Fuel())
			}
			if !sameShapes(one.Shapes(), two.Shapes()) {
				t.Fatalf("seed %d, act %d: %v: %v, want %v", seed, n, x, one.Shapes(), two.Shapes())
			}
			met[x.name].count(err)
			if v == "true" && (x.name == "InstanceOf" || x.name == "HasInstance") {
				instances++
			}
		}
		agree(t, seed, one, two)
	}
	for _, s := range []string{"Bind", "InstanceOf", "HasInstance", "Call", "Construct"} {
		if m := met[s]; m.answers < 1500 || m.stops < 500 || m.throws < 100 {
			t.Errorf("%s: %v", s, *m)
		}
	}
	if instances < 700 || met["Target"].answers < 1000 {
		t.Errorf("%d instances; Target: %v", instances, *met["Target"])
	}
}

// agree holds what all that is bound calls against each other.
func agree(t *testing.T, seed int64, one, two *heap.Heap) {
	t.Helper()
	for o := range one.Len() + 1 {
		v, err := byPackage(one, targetOf(o))
		if w, wrong := bySecond(two, targetOf(o)); v != w || err != wrong {
			t.Fatalf("seed %d: Target of %d: %s, %v, want %s, %v", seed, o, v, err, w, wrong)
		}
	}
}

// W7: with more fuel nothing is otherwise; with less it stops, having spent all.
func TestMoreFuel(t *testing.T) {
	t.Parallel()
	for seed := range int64(2000) {
		play := func(fuel int) (string, error, int, []api.Shape) {
			h, c := build(t, seed, 8, byPackage)
			x := c.act()
			h.Refuel(fuel)
			v, err := x.played(h)
			return v, err, fuel - h.Fuel(), h.Shapes()
		}
		v, err, spent, shapes := play(1 << 20)
		for fuel := range min(spent+3, 50) {
			w, wrong, less, after := play(fuel)
			if fuel < spent && (w != "" || wrong != api.ErrFuel || less != fuel) {
				t.Fatalf("W7: seed %d, fuel %d of %d: %s, %v, %d spent", seed, fuel, spent, w, wrong, less)
			}
			if fuel >= spent && (w != v || !sameError(wrong, err) || less != spent || !sameShapes(after, shapes)) {
				t.Fatalf("W7: seed %d, fuel %d of %d: %s, %v, %d spent; want %s, %v", seed, fuel, spent, w, wrong, less, v, err)
			}
		}
	}
}
