package convert_test

// Values and objects at random: both readings answer the same, cost the same, and leave the same; and with more fuel nothing is otherwise.

import (
	"math"
	"math/rand"
	"strconv"
	"testing"

	"cameo/api"
	"cameo/heap"
)

// chance makes things up at random, over a heap of so many objects.
type chance struct {
	*rand.Rand
	objects int
}

func newChance(seed int64) *chance { return &chance{Rand: rand.New(rand.NewSource(seed))} }

func pick[T any](c *chance, l ...T) T { return l[c.Intn(len(l))] }

func (c *chance) ref() api.Value { return ref(1 + c.Intn(c.objects)) }

func (c *chance) float() float64 {
	switch c.Intn(4) {
	case 0:
		return float64(c.Intn(5) - 2)
	case 1:
		return c.NormFloat64() * math.Pow(2, float64(c.Intn(70)))
	case 2:
		return math.Float64frombits(c.Uint64())
	}
	return pick(c, nan, below0, endless, -endless, 0.5, 1<<31, 1<<32-1, 1<<53-1, 1<<53, -1<<53, 5e-324)
}

func (c *chance) word() string {
	s := ""
	for range c.Intn(4) {
		s += pick(c, "1", "0", "-", ".", "e", "x", " ", "a", "\uffff", "\U0001f600")
	}
	return pick(c, s, s, pick(c, "Infinity", "NaN", "true", "null", "undefined", "\xed\xa0\xbd", "\xed\xb8\x80", " 12 ", "1e3"), strconv.Itoa(c.Intn(5)-2))
}

func (c *chance) plain() api.Value {
	switch c.Intn(6) {
	case 0, 1:
		return num(c.float())
	case 2, 3:
		return text(c.word())
	}
	return pick(c, undefined(), null(), yes(), no(), symbol(1+c.Intn(2)), symbol(api.SymToPrimitive))
}

func (c *chance) value() api.Value {
	if c.Intn(3) > 0 {
		return c.ref()
	}
	return c.plain()
}

func (c *chance) key() api.Key { return pick(c, toPrimitive, toString, valueOf) }

// body is what a function does: it answers something, ends otherwise, or changes what it is asked of.
func (c *chance) body() []api.Op {
	const this, with, other, gone = 0, 1, 2, 3
	l := []api.Op{{Code: api.OThis, To: this}, {Code: api.OConst, To: with, Val: c.value()}, {Code: api.OConst, To: gone, Val: c.plain()}}
	give := api.Op{Code: api.OReturn, A: pick(c, this, with, gone, gone, gone, gone, gone)}
	k := c.key()
	switch c.Intn(14) {
	case 0:
		return []api.Op{{Code: api.OArg}, {Code: api.OReturn}}
	case 1:
		return append(l, api.Op{Code: api.OThrow, A: pick(c, this, with, gone)})
	case 2:
		return append(l, api.Op{Code: api.OGet, A: 15, Key: k, Catch: c.Intn(2) == 0}, give)
	case 3:
		return append(l, api.Op{Code: api.OSet, To: other, A: this, B: with, Key: k, Catch: true}, give)
	case 4:
		return append(l, api.Op{Code: api.ODelete, To: other, A: this, Key: k, Catch: true}, give)
	case 5:
		return append(l, api.Op{Code: api.OSelf, To: other}, api.Op{Code: api.OCall, To: gone, A: other, B: this, C: with}, give)
	case 6:
		return append(l, api.Op{Code: api.OGet, To: other, A: this, Key: k, Catch: true}, api.Op{Code: api.OCall, To: gone, A: other, B: this, C: with, Catch: true}, give)
	case 7:
		return append(l, api.Op{Code: api.OReproto, To: other, A: this, B: with, Catch: true}, give)
	case 8:
		return append(l, api.Op{Code: api.OMake, To: with, A: this, Catch: true}, give)
	}
	return append(l, give)
}

// desc is a descriptor of a method: mostly one of some functions, or got by one.
func (c *chance) desc(functions []api.Value) api.Desc {
	f := pick(c, functions...)
	if c.Intn(6) == 0 {
		return api.Desc{Get: f, Configurable: api.Yes}
	}
	return open(pick(c, f, f, f, f, f, c.value(), undefined(), null()))
}

// reading is how an act is played: by the package, or by the second reading.
type reading func(h *heap.Heap, x act, a, b api.Value) (api.Value, error)

func byPackage(h *heap.Heap, x act, a, b api.Value) (api.Value, error) { return x.do(h, a, b) }

func bySecond(h *heap.Heap, x act, a, b api.Value) (api.Value, error) {
	return second{h}.play(x.name, a, b)
}

// build is a heap with objects, functions of operations, and natives in which acts are played. What is made up hangs on the seed alone.
func build(t *testing.T, seed int64, depth int, read reading) (*heap.Heap, *chance) {
	t.Helper()
	c, h := newChance(seed), newHeap(t, 20, 1<<20, depth)
	for range 4 {
		proto := null()
		if c.objects > 0 && c.Intn(2) == 0 {
			proto = c.ref()
		}
		c.objects = made(t, h, proto)
	}
	var functions []api.Value
	for range 6 {
		functions = append(functions, fn(t, h, c.body()...))
		c.objects = h.Len()
	}
	for range 2 {
		x, a, b := pick(c, acts()...), c.plain(), c.ref()
		functions = append(functions, addNative(t, h, func(this api.Value, args []api.Value) (api.Value, error) {
			return read(h, x, pick(newChance(int64(len(args))), this, b), a)
		}))
		c.objects = h.Len()
	}
	for range 14 {
		h.DefineOwnProperty(c.ref().Id, c.key(), c.desc(functions))
	}
	return h, c
}

// mostly is an object that may be asked, or any value.
func (c *chance) mostly() api.Value { return pick(c, ref(1+c.Intn(4)), c.value(), c.plain()) }

func TestTwoReadings(t *testing.T) {
	t.Parallel()
	type came struct{ answers, throws, stops int }
	met := map[string]came{}
	for seed := range int64(5000) {
		depth := []int{1, 2, 4, 12}[seed%4]
		one, c := build(t, seed, depth, byPackage)
		two, d := build(t, seed, depth, bySecond)
		for n := range 12 {
			x, a, b, fuel := pick(c, acts()...), c.mostly(), c.mostly(), c.Intn(60)
			pick(d, acts()...)
			d.mostly()
			d.mostly()
			d.Intn(60)
			one.Refuel(fuel)
			two.Refuel(fuel)
			v, err := byPackage(one, x, a, b)
			w, wrong := bySecond(two, x, a, b)
			if !sameValue(v, w) || !sameError(err, wrong) || one.Fuel() != two.Fuel() {
				t.Fatalf("seed %d, act %d: %s of %v, %v: %v, %v with %d left, want %v, %v with %d", seed, n, x.name, a, b, v, err, one.Fuel(), w, wrong, two.Fuel())
			}
			if !sameShapes(one.Shapes(), two.Shapes()) {
				t.Fatalf("seed %d, act %d: %s of %v, %v: %v, want %v", seed, n, x.name, a, b, one.Shapes(), two.Shapes())
			}
			m := met[x.name]
			switch err.(type) {
			case nil:
				m.answers++
			case *api.Thrown:
				m.throws++
			default:
				m.stops++
			}
			met[x.name] = m
		}
	}
	for _, x := range acts() {
		if m := met[x.name]; m.answers < 300 || x.name != "TypeOf" && min(m.throws, m.stops) < 100 {
			t.Errorf("%s: %v", x.name, m)
		}
	}
}

// W7: with more fuel nothing is otherwise; with less it stops, having spent all.
func TestMoreFuel(t *testing.T) {
	t.Parallel()
	for seed := range int64(600) {
		play := func(fuel int) (api.Value, error, int, []api.Shape) {
			h, c := build(t, seed, 8, byPackage)
			x, a, b := pick(c, acts()...), c.mostly(), c.mostly()
			h.Refuel(fuel)
			v, err := x.do(h, a, b)
			return v, err, fuel - h.Fuel(), h.Shapes()
		}
		v, err, spent, shapes := play(1 << 20)
		for fuel := range min(spent+4, 60) {
			w, wrong, less, after := play(fuel)
			if fuel < spent && (w != (api.Value{}) || wrong != api.ErrFuel || less != fuel) {
				t.Fatalf("seed %d, fuel %d of %d: %v, %v, %d spent", seed, fuel, spent, w, wrong, less)
			}
			if fuel >= spent && (!sameValue(w, v) || !sameError(wrong, err) || less != spent || !sameShapes(after, shapes)) {
				t.Fatalf("seed %d, fuel %d of %d: %v, %v, %d spent; want %v, %v", seed, fuel, spent, w, wrong, less, v, err)
			}
		}
	}
}
