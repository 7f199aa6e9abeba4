package typed_test

// 15.1, 15.2, 15.4: what the calls refuse, and of two reasons which one comes first.

import (
	"math"
	"slices"
	"strings"
	"testing"

	"cameo/api"
	"cameo/args"
	"cameo/array"
	"cameo/call"
	"cameo/heap"
	"cameo/typed"
)

// all is a heap with an object of each class that is built so far, and room for so many more: 1 (ordinary), 2 (native), 3 (a buffer of 16 bytes), 4 (a typed array over it), 5 (a detached buffer), 6 (an array), 7 and 8 (arguments), 9 (a function), 10 (a typed array over 5).
func all(t *testing.T, room int) *heap.Heap {
	t.Helper()
	h := newHeap(t, 10+room, 0, 1)
	add := func(_ int, err error) {
		t.Helper()
		if err != nil {
			t.Fatal(err)
		}
	}
	made(t, h, null())
	addNative(t, h, func(*heap.Heap, api.Value, []api.Value) (api.Value, error) { return null(), nil })
	filled(t, h, 1, 2, 3, 4, 5, 6, 7, 8, 9, 10, 11, 12, 13, 14, 15, 16)
	over(t, h, 3, api.TUint8, 0, 16)
	filled(t, h, 1, 2, 3, 4)
	add(array.New(h, null(), 16))
	add(args.Mapped(h, null(), []api.Value{num(1)}, []string{"a"}, undefined()))
	add(args.Unmapped(h, null(), []api.Value{num(1)}, undefined()))
	add(call.New(h, null(), nil, true))
	over(t, h, 5, api.TUint8, 0, 4)
	detach(t, h, 5)
	return h
}

// The objects of it that are no buffers, and those that are no typed arrays.
func noBuffers() []int { return []int{1, 2, 4, 6, 7, 8, 9, 10} }
func noTyped() []int   { return []int{1, 2, 3, 5, 6, 7, 8, 9} }

// noObjects is numbers of none.
func noObjects() []int {
	return []int{0, -1, 11, 12, 65536, 65537, math.MinInt, math.MaxInt, 1<<32 + 3}
}

// given is what a call is given; the call takes of it what it needs.
type given struct {
	room                    int
	proto                   api.Value
	b, n, kind, at, long, o int
	l                       []byte
	v                       api.Value
}

func sound() given {
	return given{room: 2, proto: ref(1), b: 3, n: 5, kind: api.TInt32, at: 4, long: 2, o: 4, l: []byte{91, 92, 93}, v: num(7)}
}

// fault is one thing that is wrong with it: rank is its place in the order of the promise; where is what it turns.
type fault struct {
	where string
	rank  int
	err   error
	turn  func(g *given)
}

// A call is what it makes of what it is given, told as one number, and which faults it knows.
type known struct {
	name   string
	make   func(h *heap.Heap, g given) (float64, error)
	faults []fault
}

func errno(e api.Errno) error {
	if e == api.OK {
		return nil
	}
	return e
}

func calls() []known {
	return []known{
		{"Buffer", func(h *heap.Heap, g given) (float64, error) {
			n, err := typed.Buffer(h, g.proto, g.n)
			return float64(n), err
		}, slices.Concat(wrongProto(), wrongRoom(), wrongCount())},
		{"Bytes", func(h *heap.Heap, g given) (float64, error) {
			l, e := typed.Bytes(h, g.b)
			return float64(len(l)), errno(e)
		}, wrongBuffer()},
		{"Detach", func(h *heap.Heap, g given) (float64, error) {
			return 0, errno(typed.Detach(h, g.b))
		}, wrongBuffer()},
		{"Lay", func(h *heap.Heap, g given) (float64, error) {
			return 0, errno(typed.Lay(h, g.b, g.at, g.l))
		}, slices.Concat(wrongBuffer(), wrongLay())},
		{"New", func(h *heap.Heap, g given) (float64, error) {
			n, err := typed.New(h, g.proto, g.b, g.kind, g.at, g.long)
			return float64(n), err
		}, slices.Concat(wrongProto(), wrongRoom(), wrongBuffer(), wrongKind(), wrongView())},
		{"Parts", func(h *heap.Heap, g given) (float64, error) {
			p, e := typed.Parts(h, g.o)
			return float64(p[0] + p[1] + p[2] + p[3]), errno(e)
		}, wrongTyped()},
		{"Read", func(h *heap.Heap, g given) (float64, error) {
			return typed.Read(h, g.b, g.at, g.kind, false)
		}, slices.Concat(wrongBuffer(), wrongKind(), wrongPlace())},
		{"Write", func(h *heap.Heap, g given) (float64, error) {
			return 0, typed.Write(h, g.b, g.at, g.kind, false, g.v)
		}, slices.Concat(wrongBuffer(), wrongKind(), wrongPlace(), wrongValue())},
	}
}

func wrongProto() []fault {
	var l []fault
	for _, v := range broken() {
		l = append(l, fault{"proto", 1, api.ErrValue, func(g *given) { g.proto = v }})
	}
	for _, n := range []int{13, 14, 65536} { // what is made would be 11 or 12
		l = append(l, fault{"proto", 1, api.ErrRef, func(g *given) { g.proto = ref(n) }})
	}
	for _, v := range []api.Value{undefined(), no(), yes(), num(0), text("x"), symbol(1), text(strings.Repeat("x", api.MaxStr))} {
		l = append(l, fault{"proto", 2, api.ErrValue, func(g *given) { g.proto = v }})
	}
	return append(l, fault{"proto", 1, api.ErrValue, func(g *given) { g.proto = text(strings.Repeat("x", api.MaxStr+1)) }})
}

func wrongRoom() []fault {
	return []fault{{"room", 99, api.ErrFull, func(g *given) { g.room = 0 }}}
}

func wrongCount() []fault {
	var l []fault
	for _, n := range []int{-1, -2, math.MinInt, -api.MaxBuffer, api.MaxBuffer + 1, 2 * api.MaxBuffer, 1 << 32, math.MaxInt} {
		l = append(l, fault{"n", 5, api.ErrRange, func(g *given) { g.n = n }})
	}
	return l
}

func wrongBuffer() []fault {
	var l []fault
	for _, n := range noObjects() {
		l = append(l, fault{"b", 3, api.ErrRef, func(g *given) { g.b = n }})
	}
	for _, n := range noBuffers() {
		l = append(l, fault{"b", 4, api.ErrKind, func(g *given) { g.b = n }})
	}
	return l
}

func wrongTyped() []fault {
	var l []fault
	for _, n := range noObjects() {
		l = append(l, fault{"o", 3, api.ErrRef, func(g *given) { g.o = n }})
	}
	for _, n := range noTyped() {
		l = append(l, fault{"o", 4, api.ErrKind, func(g *given) { g.o = n }})
	}
	return l
}

// farPlaces is places at which three bytes, or four, do not lie in 16: what wraps round, too.
func farPlaces() []int {
	return []int{14, 15, 16, 17, 18, api.MaxBuffer, 1 << 32, 1<<32 + 4, math.MaxInt - 4, math.MaxInt - 3, math.MaxInt - 2, math.MaxInt}
}

func belowPlaces() []int { return []int{-1, -2, -4, -16, math.MinInt, math.MinInt + 4, -1 << 32} }

func wrongLay() []fault {
	var l []fault
	for _, n := range slices.Concat(farPlaces(), belowPlaces()) {
		l = append(l, fault{"at", 5, api.ErrRange, func(g *given) { g.at = n }})
	}
	for _, n := range []int{13, 14, 17, 1 << 20} { // behind the place 4 there are 12
		l = append(l, fault{"l", 5, api.ErrRange, func(g *given) { g.l = make([]byte, n) }})
	}
	return append(l, fault{"b", 5, api.ErrRange, func(g *given) { g.b = 5 }}) // which has none
}

func wrongKind() []fault {
	var l []fault
	for _, n := range noKinds() {
		l = append(l, fault{"kind", 5, api.ErrRange, func(g *given) { g.kind = n }})
	}
	return l
}

// wrongView is what is wrong with the place and the length of a typed array of TInt32, as they stand together with a sound length and a sound place.
func wrongView() []fault {
	l := []fault{{"b", 6, typeError(), func(g *given) { g.b = 5 }}}
	for _, n := range belowPlaces() {
		l = append(l, fault{"at", 5, api.ErrRange, func(g *given) { g.at = n }}, fault{"long", 5, api.ErrRange, func(g *given) { g.long = n }})
	}
	for _, n := range []int{1, 2, 3, 5, 6, 7, 12, 13, 16, 17, 20, api.MaxBuffer, math.MaxInt, math.MaxInt - 3, math.MaxInt - 7} {
		l = append(l, fault{"at", 7, rangeError(), func(g *given) { g.at = n }})
	}
	// Four times 1 << 62 is 0, of 64 bits, four times 1 << 61 is below 0; one less, and it is so only with the place.
	for _, n := range []int{4, 5, 13, api.MaxBuffer, 1 << 30, 1<<30 - 1, 1 << 32, 1 << 61, 1<<61 - 1, 1 << 62, 1<<62 + 1, math.MaxInt, math.MaxInt / 4} {
		l = append(l, fault{"long", 7, rangeError(), func(g *given) { g.long = n }})
	}
	return l
}

func wrongPlace() []fault {
	l := []fault{{"b", 9, typeError(), func(g *given) { g.b = 5 }}}
	for _, n := range belowPlaces() {
		l = append(l, fault{"at", 7, rangeError(), func(g *given) { g.at = n }})
	}
	for _, n := range append(farPlaces(), 13) {
		l = append(l, fault{"at", 10, rangeError(), func(g *given) { g.at = n }})
	}
	return l
}

func wrongValue() []fault {
	var l []fault
	for _, v := range broken() {
		l = append(l, fault{"v", 6, api.ErrValue, func(g *given) { g.v = v }})
	}
	for _, n := range []int{13, 65536} {
		l = append(l, fault{"v", 6, api.ErrRef, func(g *given) { g.v = ref(n) }})
	}
	for _, n := range []int{1, 3, 4} { // there is no fuel to ask an object
		l = append(l, fault{"v", 8, api.ErrFuel, func(g *given) { g.v = ref(n) }})
	}
	return append(l, fault{"v", 8, typeError(), func(g *given) { g.v = symbol(1) }})
}

// refused makes a call with faults, which must change nothing.
func refused(t *testing.T, c known, want error, l ...fault) {
	t.Helper()
	g := sound()
	for _, f := range l {
		f.turn(&g)
	}
	h := all(t, g.room)
	before, bytes := now(h), slices.Clone(g.l)
	x, err := c.make(h, g)
	if x != 0 || !sameError(err, want) {
		g.proto.Str = "" // it may be long
		t.Errorf("%s: %v, %v, want %v, of %v", c.name, x, err, want, g)
	}
	if !sameMoment(now(h), before) || h.Fuel() != 0 || !slices.Equal(g.l, bytes) {
		t.Errorf("%s: what is refused changes something, of %v", c.name, g)
	}
}

// Each refusal, and of two the one that is named first, wherever it stands.
func TestRefused(t *testing.T) {
	t.Parallel()
	for _, c := range calls() {
		for i, f := range c.faults {
			refused(t, c, f.err, f)
			for _, g := range c.faults[:i] {
				if f.where == g.where {
					continue
				}
				first := f
				if g.rank < f.rank {
					first = g
				}
				if f.rank == g.rank && !sameError(f.err, g.err) {
					t.Fatalf("%s: two of one rank", c.name)
				}
				refused(t, c, first.err, g, f)
			}
		}
	}
}

// Without a fault each call does what it does, at no cost; so do they of what is given in excess of what they take.
func TestNotRefused(t *testing.T) {
	for name, want := range map[string]float64{"Buffer": 11, "Bytes": 16, "Detach": 0, "Lay": 0, "New": 11, "Parts": 3 + 2 + 0 + 16, "Read": 0x05060708, "Write": 0} {
		c := calls()[slices.IndexFunc(calls(), func(c known) bool { return c.name == name })]
		h := all(t, 1)
		if x, err := c.make(h, sound()); x != want || err != nil || h.Fuel() != 0 {
			t.Errorf("%s: %v, %v; want %v", name, x, err, want)
		}
	}
}
