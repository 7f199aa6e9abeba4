package iterate_test

// Programs that run in the midst: what a getter, a trap or a loop's function does to the iterator, to what is gone through, and to the keys that are met.

import (
	"fmt"
	"slices"
	"strings"
	"testing"

	"cameo/api"
	"cameo/array"
	"cameo/bound"
	"cameo/call"
	"cameo/heap"
	"cameo/iterate"
	"cameo/typed"
)

// midst is a heap with a maker of a kind, whose iterators' prototype has what asks them.
type midst struct {
	t           *testing.T
	h           *heap.Heap
	maker, next int
	runs        int
}

func newMidst(t *testing.T, kind int) *midst {
	t.Helper()
	m := &midst{t: t, h: newHeap(t, 300, 10000, 20)}
	m.maker = makerOf(t, m.h, kind)
	m.next = 1
	return m
}

// array is an array that can be gone through.
func (m *midst) array(l ...api.Value) int {
	m.t.Helper()
	proto := object(m.t, m.h, null(), marked(api.SymIterator, data(ref(m.maker), "wc")))
	n, err := array.Of(m.h, ref(proto), l)
	return made(m.t, n, err)
}

// iterator is a new array iterator of an object.
func (m *midst) iterator(o int) api.Value {
	m.t.Helper()
	v, err := m.h.Call(m.maker, ref(o), nil)
	if err != nil {
		m.t.Fatal(err)
	}
	return v
}

// program is a function that does something, and answers a value.
func (m *midst) program(v api.Value, do func()) int {
	m.t.Helper()
	return addNative(m.t, m.h, func(api.Value, []api.Value) (api.Value, error) {
		m.runs++
		do()
		return v, nil
	})
}

// asks is what a step of an array iterator comes to: the value that it tells, and whether there is none.
func (m *midst) asks(it api.Value) (stepped, error) {
	m.t.Helper()
	r, err := m.h.Call(m.next, it, nil)
	if err != nil {
		return stepped{}, err
	}
	s := shapeOf(m.t, m.h, r.Id)
	if len(s.Props) != 2 {
		m.t.Fatalf("23.3: %v", s)
	}
	return stepped{s.Props[0].Desc.Value, s.Props[1].Desc.Value.Bool}, nil
}

// tells holds steps of an array iterator against the values that they must tell, and the end.
func (m *midst) tells(it api.Value, want ...api.Value) {
	m.t.Helper()
	for _, v := range want {
		if s, err := m.asks(it); !sameValue(s.v, v) || s.over || err != nil {
			m.t.Errorf("23.2: %v, %v; want %v", s, err, v)
		}
	}
}

func (m *midst) over(it api.Value) {
	m.t.Helper()
	for range 2 {
		if s, err := m.asks(it); s != (stepped{undefined(), true}) || err != nil {
			m.t.Errorf("23.2: %v, %v; want no more", s, err)
		}
	}
}

func (m *midst) sets(o int, k string, v api.Value) {
	m.t.Helper()
	if ok, err := m.h.Set(o, str(k), v, ref(o)); !ok || err != nil {
		m.t.Error(ok, err)
	}
}

// long makes an array so long.
func (m *midst) long(o, n int) {
	m.t.Helper()
	m.sets(o, "length", num(float64(n)))
}

// What is done to an array between two steps: the next one finds it as it is then; once the iterator was at its end, it stays there.
func TestBetweenSteps(t *testing.T) {
	a, b, c := text("a"), text("b"), text("c")
	none := undefined()
	for i, row := range []struct {
		before int // steps
		do     func(m *midst, o int)
		behind []api.Value
	}{
		{0, func(*midst, int) {}, []api.Value{a, b, c}},
		{1, func(m *midst, o int) { m.long(o, 1) }, nil},
		{1, func(m *midst, o int) { m.long(o, 2) }, []api.Value{b}},
		{1, func(m *midst, o int) { m.long(o, 5) }, []api.Value{b, c, none, none}},
		{2, func(m *midst, o int) { m.long(o, 1); m.long(o, 3) }, []api.Value{none}},
		{3, func(m *midst, o int) { m.long(o, 4) }, []api.Value{none}},
		{3, func(m *midst, o int) { m.sets(o, "4", num(1)) }, []api.Value{none, num(1)}},
		{3, func(m *midst, o int) { m.long(o, 0) }, nil},
		{0, func(m *midst, o int) { m.long(o, 0) }, nil},
		{4, func(m *midst, o int) { m.sets(o, "9", num(1)) }, nil},
		{5, func(m *midst, o int) { m.sets(o, "9", num(1)) }, nil},
		{1, func(m *midst, o int) { m.h.Delete(o, str("1")) }, []api.Value{none, c}},
		{1, func(m *midst, o int) { m.sets(o, "2", num(2)); m.sets(o, "0", num(0)) }, []api.Value{b, num(2)}},
		{1, func(m *midst, o int) {
			lay(m.t, m.h, o, is("2", accessor(ref(m.program(num(8), func() {})), none, "")))
		}, []api.Value{b, num(8)}},
		{1, func(m *midst, o int) {
			m.h.Delete(o, str("1"))
			m.h.SetPrototypeOf(o, ref(object(m.t, m.h, null(), has("1", num(9)))))
		}, []api.Value{num(9), c}},
		{1, func(m *midst, o int) { fix(m.h, o) }, []api.Value{b, c}},
	} {
		m := newMidst(t, api.IValues)
		o := m.array(a, b, c)
		it, other := m.iterator(o), m.iterator(o)
		for range row.before {
			if _, err := m.asks(it); err != nil {
				t.Fatal(err)
			}
		}
		row.do(m, o)
		m.tells(it, row.behind...)
		m.over(it)
		m.long(o, 30)
		m.over(it)
		if s, err := m.asks(other); s.over || err != nil { // which has not been asked so far
			t.Errorf("23.2: %d: %v, %v", i, s, err)
		}
	}
}

// What is done within a step: the length has been asked ahead of the member; each step asks for both.
func TestWithinSteps(t *testing.T) {
	m := newMidst(t, api.IValues)
	o := object(t, m.h, null(), has("0", text("a")), has("1", text("b")))
	lay(t, m.h, o, got("length", m.program(num(2), func() {
		m.sets(o, "0", text("new a"))
		m.h.Delete(o, str("1"))
	})))
	it := m.iterator(o)
	m.tells(it, text("new a"), undefined())
	m.over(it)
	if m.runs != 3 {
		t.Errorf("23.2: the length was asked %d times", m.runs)
	}
	m = newMidst(t, api.IEntries) // a member that takes all others away, and then brings them back
	p := m.array(num(0), num(1), num(2))
	lay(t, m.h, p, got("0", m.program(text("zero"), func() { m.long(p, 1) })))
	it = m.iterator(p)
	r, err := m.h.Call(m.next, it, nil)
	if err != nil {
		t.Fatal(err)
	}
	looks(t, m.h, r.Id, result(ref(r.Id-1), no()))
	looks(t, m.h, r.Id-1, listed(num(0), text("zero")))
	m.over(it)
}

// within is the ways in which a step of an array iterator runs a program: its object, whose program that is.
func within(m *midst, do does) map[string]int {
	f := addNative(m.t, m.h, do)
	l := map[string]int{"length": 0, "member": 0, "valueOf": 0, "toString": 0, "primitive": 0}
	for name := range l {
		o := object(m.t, m.h, null(), has("length", num(3)), has("0", num(1)), has("1", num(1)), has("2", num(1)))
		switch name {
		case "length":
			lay(m.t, m.h, o, got("length", f))
		case "member":
			lay(m.t, m.h, o, got("0", f), got("1", f), got("2", f))
		case "primitive":
			lay(m.t, m.h, o, has("length", ref(object(m.t, m.h, null(), marked(api.SymToPrimitive, data(ref(f), ""))))))
		default:
			lay(m.t, m.h, o, has("length", ref(object(m.t, m.h, null(), has(name, ref(f))))))
		}
		l[name] = o
	}
	l["trap"] = proxied(m.t, m.h, object(m.t, m.h, null()), object(m.t, m.h, null(), has("get", ref(f))))
	return l
}

func ways() []string {
	return []string{"length", "member", "valueOf", "toString", "primitive", "trap"}
}

// An iterator that is asked within itself throws there; where that is caught, the step goes on as if nothing had been.
func TestAskedWithinItself(t *testing.T) {
	for _, way := range ways() {
		for _, through := range []string{"call", "bound", "getter", "Step"} {
			for _, caught := range []bool{true, false} {
				m := newMidst(t, api.IValues)
				var it api.Value
				n, err := bound.Bind(m.h, m.next, null(), nil)
				made(t, n, err)
				inner := 0
				asks := func() (err error) {
					inner++
					switch through {
					case "call":
						_, err = m.h.Call(m.next, it, nil)
					case "bound":
						n, e := bound.Bind(m.h, m.next, it, nil)
						_, err = m.h.Call(made(t, n, e), null(), nil)
					case "getter":
						o := object(t, m.h, null(), got("asks", m.next))
						_, err = m.h.Get(o, str("asks"), it)
					case "Step":
						_, _, err = iterate.Step(m.h, api.Iterator{Object: it.Id, Next: ref(m.next)})
					}
					return err
				}
				o := within(m, func(api.Value, []api.Value) (api.Value, error) {
					if err := asks(); !sameError(err, typeError()) {
						t.Errorf("23.2: %s by %s: %v", way, through, err)
					} else if !caught {
						return api.Value{}, err
					}
					return num(3), nil
				})[way]
				it = m.iterator(o)
				want := num(1)
				if way == "member" || way == "trap" {
					want = num(3)
				}
				if caught {
					m.tells(it, want, want, want)
					m.over(it)
				} else if _, err := m.asks(it); !sameError(err, typeError()) {
					t.Errorf("23.2: %s by %s: %v", way, through, err)
				}
				m.over(it)
				if inner < 1 || caught && inner < 3 {
					t.Errorf("%s by %s: it is asked %d times within", way, through, inner)
				}
			}
		}
	}
}

// Another iterator of the same object, or one that is made within, may be asked within a step.
func TestOthersWithin(t *testing.T) {
	for _, way := range ways() {
		m := newMidst(t, api.IKeys)
		var told []stepped
		var other api.Value
		inside := 0
		o := 0
		l := within(m, func(api.Value, []api.Value) (api.Value, error) {
			if inside++; inside > 1 {
				inside--
				return num(3), nil
			}
			defer func() { inside-- }()
			for _, it := range []api.Value{other, m.iterator(o)} {
				s, err := m.asks(it)
				if err != nil {
					return api.Value{}, err
				}
				told = append(told, s)
			}
			return num(3), nil
		})
		o = l[way]
		it := m.iterator(o)
		other = m.iterator(o)
		m.tells(it, num(0), num(1), num(2))
		m.over(it)
		if way == "member" { // whose keys ask for none
			if len(told) > 0 {
				t.Errorf("23.2: %v", told)
			}
			continue
		}
		want := []stepped{{num(0), false}, {num(0), false}, {num(1), false}, {num(0), false}, {num(2), false}, {num(0), false}, {undefined(), true}, {num(0), false}}
		if !slices.Equal(told[:8], want) {
			t.Errorf("23.2: %s: %v", way, told)
		}
	}
}

// What is thrown within a step ends the iterator, whatever it is; what stops there does not: the iterator can be asked again.
func TestThrownAndStoppedWithin(t *testing.T) {
	for _, way := range ways() {
		for _, wrong := range append(ends(), api.Errno(77)) {
			m := newMidst(t, api.IValues)
			ends := true
			o := within(m, func(api.Value, []api.Value) (api.Value, error) {
				if ends {
					return api.Value{}, wrong
				}
				return num(3), nil
			})[way]
			it := m.iterator(o)
			for range 2 {
				if _, err := m.asks(it); err != wrong {
					t.Fatalf("23.2: %s: %v; want %v", way, err, wrong)
				}
				if isThrow(wrong) {
					break
				}
			}
			ends = false
			if isThrow(wrong) {
				m.over(it)
				continue
			}
			if s, err := m.asks(it); s.over || err != nil {
				t.Errorf("23.2: %s, behind %v: %v, %v", way, wrong, s, err)
			}
		}
	}
}

// A buffer that is detached within a step: of a proxy of the typed array, because such an array itself runs nothing.
func TestDetachedInTheMidst(t *testing.T) {
	for _, at := range []string{"length", "0", "1"} {
		m := newMidst(t, api.IValues)
		n, err := typed.Buffer(m.h, null(), 2)
		b := made(t, n, err)
		n, err = typed.New(m.h, null(), b, api.TInt8, 0, 2)
		o := made(t, n, err)
		m.sets(o, "0", num(5))
		m.sets(o, "1", num(6))
		gone := false
		handler := object(t, m.h, null(), has("get", ref(addNative(t, m.h, func(_ api.Value, l []api.Value) (api.Value, error) {
			if l[1].Str == at && !gone {
				gone = true
				typed.Detach(m.h, b)
			}
			if l[1].Str == "length" {
				return num(2), nil
			}
			return m.h.Get(l[0].Id, str(l[1].Str), l[2])
		}))))
		it, itself := m.iterator(proxied(t, m.h, o, handler)), m.iterator(o)
		m.tells(itself, num(5))
		switch at {
		case "length", "0":
			m.tells(it, undefined(), undefined())
		case "1":
			m.tells(it, num(5), undefined())
		}
		m.over(it)
		if _, err := m.asks(itself); !sameError(err, typeError()) {
			t.Errorf("23.2: %v", err)
		}
		m.over(itself)
	}
}

// The function of a loop over an array: what it does to the array, and to its iterator, the next step finds.
func TestLoopsInTheMidst(t *testing.T) {
	for i, row := range []struct {
		do   func(m *midst, o int, v api.Value)
		want []api.Value
	}{
		{func(*midst, int, api.Value) {}, []api.Value{num(1), num(2), num(3)}},
		{func(m *midst, o int, v api.Value) { m.long(o, 2) }, []api.Value{num(1), num(2)}},
		{func(m *midst, o int, v api.Value) { m.long(o, 0) }, []api.Value{num(1)}},
		{func(m *midst, o int, v api.Value) {
			if v.Num < 5 {
				n, _ := array.Length(m.h, o)
				m.sets(o, fmt.Sprint(n), num(v.Num+3))
			}
		}, []api.Value{num(1), num(2), num(3), num(4), num(5), num(6), num(7)}},
		{func(m *midst, o int, v api.Value) { m.sets(o, "2", num(v.Num*10)) }, []api.Value{num(1), num(2), num(20)}},
		{func(m *midst, o int, v api.Value) { m.sets(2, "next", num(1)) }, []api.Value{num(1), num(2), num(3)}}, // next has been asked once
		{func(m *midst, o int, v api.Value) { m.h.SetPrototypeOf(o, null()) }, []api.Value{num(1), num(2), num(3)}},
		{func(m *midst, o int, v api.Value) {
			if v.Num == 1 {
				m.tells(ref(m.h.Len()-1), num(2)) // the iterator of the loop lies ahead of the step's result
			}
		}, []api.Value{num(1), num(3)}},
	} {
		m := newMidst(t, api.IValues)
		o := m.array(num(1), num(2), num(3))
		var given []api.Value
		f := addNative(t, m.h, func(this api.Value, l []api.Value) (api.Value, error) {
			if len(l) != 1 || this != undefined() {
				t.Errorf("23.8: %v, %v", this, l)
			}
			given = append(given, l[0])
			row.do(m, o, l[0])
			return yes(), nil
		})
		n, err := iterate.ForOf(m.h, ref(o), ref(f))
		if n != len(row.want) || err != nil || !sameValues(given, row.want) {
			t.Errorf("23.8: row %d: %d, %v: %v; want %v", i, n, err, given, row.want)
		}
	}
}

// A loop that lengthens for ever what it goes through ends for fuel, or for room; what has been done stays.
func TestEndlessLoop(t *testing.T) {
	for fuel := 40; fuel < 160; fuel++ {
		m := newMidst(t, api.IValues)
		o := object(t, m.h, null(), marked(api.SymIterator, data(ref(m.maker), "")), has("length", num(1)))
		n := 0
		f := addNative(t, m.h, func(_ api.Value, l []api.Value) (api.Value, error) {
			n++
			lay(t, m.h, o, has(fmt.Sprint(n), l[0]), has("length", num(float64(n+1))))
			return undefined(), nil
		})
		m.h.Refuel(fuel)
		// The method, the maker, and next in a prototype; of each round five units for the step, and one for the function.
		if times, err := iterate.ForOf(m.h, ref(o), ref(f)); times != 0 || err != api.ErrFuel || n != (fuel-4)/6 || m.h.Fuel() != 0 {
			t.Errorf("23.8: %d, %v, %d times with %d", times, err, n, fuel)
		}
		if s := shapeOf(t, m.h, o); len(s.Props) != 2+n {
			t.Errorf("23.8: %v", s)
		}
		m.h.Refuel(10000)
		n = 0
		room := 300 - m.h.Len() - 1 // for one iterator, and results
		if times, err := iterate.ForOf(m.h, ref(o), ref(f)); times != 0 || err != api.ErrFull || n != room {
			t.Errorf("23.8: %d, %v, %d times; room for %d", times, err, n, room)
		}
	}
}

// A loop within a loop, over the same array and over others; each has an iterator of its own.
func TestLoopsWithinLoops(t *testing.T) {
	m := newMidst(t, api.IValues)
	o := m.array(num(1), num(2))
	var pairs []string
	var outer api.Value
	inner := addNative(t, m.h, func(_ api.Value, l []api.Value) (api.Value, error) {
		pairs = append(pairs, fmt.Sprint(outer.Num, l[0].Num))
		return undefined(), nil
	})
	f := addNative(t, m.h, func(_ api.Value, l []api.Value) (api.Value, error) {
		outer = l[0]
		n, err := iterate.ForOf(m.h, ref(o), ref(inner))
		if n != 2 || err != nil {
			return api.Value{}, err
		}
		list, err := iterate.List(m.h, ref(o))
		if len(list) != 2 || err != nil {
			t.Errorf("23.7: %v, %v", list, err)
		}
		return undefined(), err
	})
	if n, err := iterate.ForOf(m.h, ref(o), ref(f)); n != 2 || err != nil || strings.Join(pairs, ", ") != "1 1, 1 2, 2 1, 2 2" {
		t.Errorf("23.8: %d, %v, %q", n, err, pairs)
	}
}

// One that does so for ever ends by depth, or by fuel, whichever comes first. The calls themselves are not one deeper.
func TestRoundAndRound(t *testing.T) {
	for _, depth := range []int{1, 2, 3, 5, 20} {
		for fuel := range 80 {
			m := newMidst(t, api.IValues)
			m.h = newHeap(t, 300, 10000, depth)
			m.maker, m.next = makerOf(t, m.h, api.IValues), 1
			o := object(t, m.h, null(), has("length", num(1)), has("0", num(1)), marked(api.SymIterator, data(ref(m.maker), "")))
			rounds := 0
			var f int
			f = addNative(t, m.h, func(api.Value, []api.Value) (api.Value, error) {
				rounds++
				n, err := iterate.ForOf(m.h, ref(o), ref(f))
				return num(float64(n)), err
			})
			m.h.Refuel(fuel)
			n, err := iterate.ForOf(m.h, ref(o), ref(f))
			if n != 0 || !isStop(err) || err == api.ErrFull {
				t.Fatalf("23.8: %d, %v", n, err)
			}
			// A round is the method, the maker, next in a prototype (two deep), the step (two deep), done and value, and the function.
			const round, deepest = 1 + 1 + 2 + 3 + 2 + 1, 2
			want, spent, done := error(api.ErrDepth), 0, 0
			for d := 0; ; d++ { // d functions have been entered
				if depth < d+1 {
					spent++ // the first thing is too deep
					break
				}
				if depth < d+deepest {
					spent += 4 // so is the prototype's next
					break
				}
				spent, done = spent+round, d+1
			}
			if fuel < spent {
				want, spent, done = api.ErrFuel, fuel, fuel/round
			}
			if err != want || fuel-m.h.Fuel() != spent || rounds != done {
				t.Fatalf("depth %d, fuel %d: %v, %d spent, %d rounds; want %v, %d, %d", depth, fuel, err, fuel-m.h.Fuel(), rounds, want, spent, done)
			}
		}
	}
}

// Behind calls within one another there is less room for what is entered.
func TestDepth(t *testing.T) {
	for within := range 4 {
		for depth := within + 1; depth < within+5; depth++ {
			m := newMidst(t, api.IValues)
			m.h = newHeap(t, 300, 10000, depth)
			m.maker, m.next = makerOf(t, m.h, api.IValues), 1
			n, err := array.Of(m.h, null(), []api.Value{num(1)})
			o := made(t, n, err)
			lay(t, m.h, o, marked(api.SymIterator, data(ref(m.maker), "")))
			p := proxied(t, m.h, object(t, m.h, ref(o), has("a", num(1))), object(t, m.h, null()))
			var list, names error
			do := func() {
				_, list = ask("List", ref(o)).played(m.h)
				_, names = ask("ForIn", ref(p)).played(m.h)
			}
			for range within {
				inner := do
				f := addNative(t, m.h, func(api.Value, []api.Value) (api.Value, error) {
					inner()
					return null(), nil
				})
				do = func() {
					if _, err := m.h.Call(f, null(), nil); err != nil {
						t.Error(err)
					}
				}
			}
			do()
			want := error(nil)
			if depth < within+2 {
				want = api.ErrDepth
			}
			if list != want || names != want {
				t.Errorf("within %d, depth %d: %v, %v; want %v", within, depth, list, names, want)
			}
		}
	}
}

// Bodies of operations in the midst: an array whose member is a getter, which asks the very iterator that asks it.
func TestBodies(t *testing.T) {
	m := newMidst(t, api.IValues)
	o := m.array(num(1), num(2))
	it := m.iterator(o)
	n, err := call.New(m.h, null(), []api.Op{
		{Code: api.OConst, To: 0, Val: ref(m.next)}, {Code: api.OConst, To: 1, Val: it}, {Code: api.OCall, To: 2, A: 0, B: 1, Catch: true}, {Code: api.OReturn, A: 2},
	}, false)
	f := made(t, n, err)
	lay(t, m.h, o, got("1", f))
	m.tells(it, num(1))
	m.tells(it, text("TypeError")) // what is thrown within is caught there, and is a word then
	m.over(it)
}
