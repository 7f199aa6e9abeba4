package iterate_test

// What each act does among objects that write down what is entered (23.1 to 23.9): its steps, what is made, and what the act comes to, worked out from how the objects lie there alone, with so much of fuel, depth and room, and with one step ending otherwise.

import (
	"fmt"
	"slices"
	"strconv"

	"cameo/api"
	"cameo/number"
)

// pointer is what an array iterator has.
type pointer struct {
	kind, object, number int
	ended, asked         bool
}

// plot is how the objects lie there, what has been entered, and how much of the stage has been used.
type plot struct {
	cast     cast
	stage    stage
	turn     turn
	second   turn
	change   change
	shapes   []api.Shape
	pointers map[int]*pointer
	given    map[int]int // how many answers a function has given
	lines    []string
	fuel     int // what is left
	spent    int
	deepest  int
	made     int
}

func newPlot(c cast, s stage, n turn) *plot {
	return &plot{cast: c, stage: s, fuel: s.fuel, turn: n, second: never(), change: change{line: -1}, shapes: slices.Clone(c.shapes), pointers: map[int]*pointer{}, given: map[int]int{}}
}

// ending ends what is played, unless it is attempted.
type ending struct{ err error }

func (p *plot) ends(err error) { panic(ending{err}) }
func (p *plot) throws()        { p.ends(typeError()) }

// attempt is what something ends by.
func attempt(do func()) (err error) {
	defer func() {
		switch x := recover().(type) {
		case nil:
		case ending:
			err = x.err
		default:
			panic(x)
		}
	}()
	do()
	return nil
}

func isThrow(err error) bool {
	_, ok := err.(*api.Thrown)
	return ok
}

func isStop(err error) bool {
	_, ok := err.(api.Errno)
	return ok
}

// step is a method that is entered. Objects that were made, and the package's functions, write nothing down.
func (p *plot) step(deep, o int, line string) {
	if p.fuel == 0 {
		p.ends(api.ErrFuel)
	}
	p.fuel--
	p.spent++
	if deep > p.stage.depth {
		p.ends(api.ErrDepth)
	}
	p.deepest = max(p.deepest, deep)
	if _, ours := p.cast.parts[o]; ours || o > len(p.cast.shapes) {
		return
	}
	p.lines = append(p.lines, fmt.Sprintf("%d %s", o, line))
	if len(p.lines)-1 == p.change.line {
		p.change.of(p.shapes)
	}
	for _, n := range []turn{p.second, p.turn} {
		if len(p.lines)-1 == n.line {
			p.ends(n.err)
		}
	}
}

// makes is a new object, which costs nothing.
func (p *plot) makes(s api.Shape) api.Value {
	if p.made == p.stage.room {
		p.ends(api.ErrFull)
	}
	p.made++
	p.shapes = append(p.shapes, s)
	return ref(len(p.shapes))
}

// ordered is the keys of a shape, indices first, then strings, then symbols.
func ordered(s api.Shape) []api.Key {
	var numbers []int
	var words, symbols []api.Key
	for _, p := range s.Props {
		n, err := strconv.Atoi(p.Key.Str)
		switch {
		case p.Key.Sym != 0:
			symbols = append(symbols, p.Key)
		case err == nil && n >= 0 && n < 1<<32-1 && strconv.Itoa(n) == p.Key.Str:
			numbers = append(numbers, n)
		default:
			words = append(words, p.Key)
		}
	}
	slices.Sort(numbers)
	var l []api.Key
	for _, n := range numbers {
		l = append(l, str(strconv.Itoa(n)))
	}
	return append(append(l, words...), symbols...)
}

// find is an object's property as it lies there.
func (p *plot) find(o int, k api.Key) (api.Desc, bool) {
	for _, x := range p.shapes[o-1].Props {
		if x.Key == k {
			return x.Desc, true
		}
	}
	return api.Desc{}, false
}

func (p *plot) callable(v api.Value) bool {
	return v.Kind == api.KRef && p.shapes[v.Id-1].Class == api.CNative
}

// The methods, each with all that it enters.

func (p *plot) get(deep, o int, k api.Key, receiver api.Value) api.Value {
	p.step(deep, o, "get "+nameOf(k)+" "+fmt.Sprint(receiver))
	d, there := p.find(o, k)
	up := p.shapes[o-1].Proto
	switch {
	case d.Get.Kind == api.KRef:
		return p.call(deep+1, d.Get.Id, receiver)
	case there && !isAccessor(d):
		return d.Value
	case !there && up.Kind == api.KRef:
		return p.get(deep+1, up.Id, k, receiver)
	}
	return undefined()
}

// of is what an object has under a key, asked of itself.
func (p *plot) of(deep int, v api.Value, k api.Key) api.Value { return p.get(deep, v.Id, k, v) }

func (p *plot) call(deep, f int, this api.Value, l ...api.Value) api.Value {
	p.step(deep, f, "call "+fmt.Sprint(this, l))
	x, ours := p.cast.parts[f]
	switch {
	case ours && x.kind == 0:
		return p.next(deep+1, this)
	case ours && this.Kind != api.KRef:
		p.throws()
	case ours:
		o := p.makes(of(api.CIterator, x.its))
		p.pointers[o.Id] = &pointer{kind: x.kind, object: this.Id}
		return o
	}
	p.given[f]++
	l = p.cast.answers[f]
	return l[min(p.given[f], len(l))-1]
}

// Array iterators.

func (p *plot) next(deep int, this api.Value) (r api.Value) {
	c := p.pointers[this.Id]
	if this.Kind != api.KRef || c == nil || c.asked {
		p.throws()
	}
	c.asked = true
	err := attempt(func() { r = p.answer(deep, c) })
	c.asked = false
	c.ended = c.ended || isThrow(err)
	if err != nil {
		p.ends(err)
	}
	return r
}

func (p *plot) answer(deep int, c *pointer) api.Value {
	if c.ended || !(float64(c.number)+1 <= p.length(deep, ref(c.object))) {
		c.ended = true
		return p.makes(over())
	}
	c.number++
	n := num(float64(c.number - 1))
	if c.kind == api.IKeys {
		return p.makes(result(n, no()))
	}
	v := p.of(deep, ref(c.object), str(strconv.Itoa(c.number-1)))
	if c.kind == api.IEntries {
		v = p.makes(listed(n, v))
	}
	return p.makes(result(v, no()))
}

// length is an object's length, which need not be whole here.
func (p *plot) length(deep int, v api.Value) float64 {
	switch v = p.primitive(deep, p.of(deep, v, str("length"))); v.Kind {
	case api.KNull:
		return 0
	case api.KBool:
		return map[bool]float64{true: 1}[v.Bool]
	case api.KNum:
		return v.Num
	case api.KStr:
		return number.Parse(v.Str)
	case api.KSym:
		p.throws()
	}
	return nan
}

func (p *plot) primitive(deep int, v api.Value) api.Value {
	if v.Kind != api.KRef {
		return v
	}
	if how := p.method(deep, v, sym(api.SymToPrimitive)); how.Kind == api.KRef {
		x := p.call(deep, how.Id, v, text("number"))
		if x.Kind == api.KRef {
			p.throws()
		}
		return x
	}
	for _, name := range []string{"valueOf", "toString"} {
		if f := p.of(deep, v, str(name)); p.callable(f) {
			if x := p.call(deep, f.Id, v); x.Kind != api.KRef {
				return x
			}
		}
	}
	p.throws()
	return api.Value{}
}

// The protocol.

// method is what an object has under a key, to be called; undefined, if it has nothing there.
func (p *plot) method(deep int, v api.Value, k api.Key) api.Value {
	f := p.of(deep, v, k)
	switch {
	case f.Kind == api.KUndefined || f.Kind == api.KNull:
		return undefined()
	case !p.callable(f):
		p.throws()
	}
	return f
}

// object is the object that a function answers.
func (p *plot) object(f, this api.Value) api.Value {
	v := p.call(1, f.Id, this)
	if v.Kind != api.KRef {
		p.throws()
	}
	return v
}

func (p *plot) iterator(v api.Value) api.Iterator {
	if v.Kind != api.KRef {
		p.throws()
	}
	f := p.method(1, v, sym(api.SymIterator))
	if f == undefined() {
		p.throws()
	}
	o := p.object(f, v)
	return api.Iterator{Object: o.Id, Next: p.of(1, o, str("next"))}
}

func (p *plot) stepped(it api.Iterator) stepped {
	if !p.callable(it.Next) {
		p.throws()
	}
	r := p.object(it.Next, ref(it.Object))
	switch done := p.of(1, r, str("done")); {
	case done.Kind == api.KUndefined, done.Kind == api.KNull, done == no(), done == text(""), done.Kind == api.KNum && (done.Num == 0 || done.Num != done.Num):
		return stepped{v: p.of(1, r, str("value"))}
	}
	return stepped{over: true}
}

func (p *plot) closes(it api.Iterator, cause error) {
	if isStop(cause) {
		p.ends(cause)
	}
	err := attempt(func() {
		if f := p.method(1, ref(it.Object), str("return")); f.Kind == api.KRef {
			p.object(f, ref(it.Object))
		}
	})
	if isThrow(cause) && !isStop(err) {
		p.ends(cause)
	}
	if err != nil {
		p.ends(err)
	}
}

func (p *plot) list(v api.Value) (l []api.Value) {
	it := p.iterator(v)
	for x := p.stepped(it); !x.over; x = p.stepped(it) {
		if len(l) == api.MaxArgs {
			p.ends(api.ErrLong)
		}
		l = append(l, x.v)
	}
	return l
}

func (p *plot) loop(v, f api.Value) (times int) {
	it := p.iterator(v)
	for {
		x := p.stepped(it)
		if x.over {
			return times
		}
		times++
		var answer api.Value
		if err := attempt(func() { answer = p.call(1, f.Id, undefined(), x.v) }); err != nil {
			p.closes(it, err)
		}
		if answer == no() {
			p.closes(it, nil)
			return times
		}
	}
}

func (p *plot) names(v api.Value) (l []api.Key) {
	met := map[api.Key]bool{}
	for v.Kind == api.KRef {
		p.step(1, v.Id, "keys")
		for _, k := range ordered(p.shapes[v.Id-1]) {
			if k.Sym != 0 || met[k] {
				continue
			}
			p.step(1, v.Id, "own "+nameOf(k))
			d, there := p.find(v.Id, k)
			met[k] = there
			if d.Enumerable == api.Yes {
				l = append(l, k)
			}
		}
		p.step(1, v.Id, "proto")
		v = p.shapes[v.Id-1].Proto
	}
	return l
}

// known refuses what the heap has not: another act may not have made it.
func (p *plot) known(x act) {
	there := func(o int) bool { return o >= 1 && o <= len(p.shapes) }
	if x.name == "Step" || x.name == "Close" {
		x.v = append(x.v, ref(x.n))
	}
	for _, v := range x.v {
		if v.Kind == api.KRef && !there(v.Id) {
			p.ends(api.ErrRef)
		}
	}
}

// played is what an act must come to.
func (p *plot) played(x act) (answer string, err error) {
	var said any
	err = attempt(func() {
		p.known(x)
		switch x.name {
		case "Result":
			said = p.makes(result(x.v[0], []api.Value{no(), yes()}[x.n])).Id
		case "Get":
			said = p.iterator(x.v[0])
		case "Step":
			said = p.stepped(x.iterator())
		case "Close":
			p.closes(x.iterator(), x.cause)
		case "List":
			said = p.list(x.v[0])
		case "ForOf":
			said = p.loop(x.v[0], x.v[1])
		case "ForIn":
			said = p.names(x.v[0])
		case "Refuel":
			p.fuel, said = x.n, ""
		case "Call":
			said = p.call(1, x.v[0].Id, x.v[1], x.v[2:]...)
		}
	})
	if err == nil && x.name != "Close" {
		answer = fmt.Sprint(said)
	}
	return answer, err
}
