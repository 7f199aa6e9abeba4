package heap_test

// What the chapters' words say of a heap, written down a second time, by other means than the package has: properties are a list, prototypes are looked for among all objects, and what throws or stops is a panic that is caught at the face.

import (
	"slices"
	"strconv"
	"strings"

	"cameo/api"
	"cameo/desc"
	"cameo/heap"
)

// door is what a heap and its second reading have in common.
type door interface {
	Len() int
	Fuel() int
	Refuel(fuel int) api.Errno
	Make(proto api.Value) (int, error)
	Check(v api.Value) api.Errno
	Class(o int) (int, api.Errno)
	Shape(o int) (api.Shape, api.Errno)
	Shapes() []api.Shape
	Callable(v api.Value) bool
	Constructor(v api.Value) bool
	GetPrototypeOf(o int) (api.Value, error)
	SetPrototypeOf(o int, v api.Value) (bool, error)
	IsExtensible(o int) (bool, error)
	PreventExtensions(o int) (bool, error)
	GetOwnProperty(o int, k api.Key) (api.Desc, bool, error)
	DefineOwnProperty(o int, k api.Key, d api.Desc) (bool, error)
	HasProperty(o int, k api.Key) (bool, error)
	Get(o int, k api.Key, receiver api.Value) (api.Value, error)
	Set(o int, k api.Key, v, receiver api.Value) (bool, error)
	Delete(o int, k api.Key) (bool, error)
	OwnPropertyKeys(o int) ([]api.Key, error)
	Call(f int, this api.Value, args []api.Value) (api.Value, error)
	Construct(f int, args []api.Value, target int) (int, error)
}

// act is what a function does, behind whichever door it is.
type act func(d door, f int, this api.Value, args []api.Value) (api.Value, error)

// function and builder are objects that can be called, and constructed, too: what they do is what their class alone has.
type function struct{ heap.Ordinary }

func (function) Call(h *heap.Heap, f int, this api.Value, args []api.Value) (api.Value, error) {
	return h.Own(f).(act)(h, f, this, args)
}

type builder struct{ function }

func (builder) Construct(h *heap.Heap, f int, args []api.Value, target int) (int, error) {
	return built(h.Own(f).(act)(h, f, ref(target), args))
}

// built is the number of an object that a function has answered, 0 of any other value.
func built(v api.Value, err error) (int, error) { return v.Id, err }

// addTo puts a function into a heap.
func addTo(h *heap.Heap, a act, ctor bool) int {
	var m heap.Methods = function{}
	if ctor {
		m = builder{}
	}
	n, err := h.Add(api.CNative, null(), m, a)
	if err != nil {
		panic(err)
	}
	return n
}

func null() api.Value         { return api.Value{Kind: api.KNull} }
func undefined() api.Value    { return api.Value{Kind: api.KUndefined} }
func num(x float64) api.Value { return api.Value{Kind: api.KNum, Num: x} }
func text(s string) api.Value { return api.Value{Kind: api.KStr, Str: s} }
func ref(n int) api.Value     { return api.Value{Kind: api.KRef, Id: n} }
func str(s string) api.Key    { return api.Key{Str: s} }
func sym(n int) api.Key       { return api.Key{Sym: n} }
func all(v api.Value) api.Desc {
	return api.Desc{Value: v, Writable: 2, Enumerable: 2, Configurable: 2}
}

// thing is an object of the second reading.
type thing struct {
	shape api.Shape
	does  act
	ctor  bool
}

// model is the second reading of a heap.
type model struct {
	things                []*thing
	room, fuel, depth, in int
}

func newModel(room, fuel, depth int) *model { return &model{room: room, fuel: fuel, depth: depth} }

func (m *model) add(a act, ctor bool) int {
	m.things = append(m.things, &thing{shape: api.Shape{Class: api.CNative, Proto: null(), Extensible: true}, does: a, ctor: ctor})
	return len(m.things)
}

func (m *model) Len() int  { return len(m.things) }
func (m *model) Fuel() int { return m.fuel }

func (m *model) Refuel(fuel int) api.Errno {
	if fuel < 0 {
		return api.ErrRange
	}
	m.fuel = fuel
	return 0
}

func (m *model) Make(proto api.Value) (int, error) {
	switch {
	case m.Check(proto) != 0:
		return 0, m.Check(proto)
	case proto.Kind != api.KNull && proto.Kind != api.KRef:
		return 0, api.ErrValue
	case len(m.things) == m.room:
		return 0, api.ErrFull
	}
	m.things = append(m.things, &thing{shape: api.Shape{Class: api.COrdinary, Proto: proto, Extensible: true}})
	return len(m.things), nil
}

// strings that are none have the byte FF in these tests.
func stringOK(s string) bool { return len(s) <= api.MaxStr && !strings.Contains(s, "\xff") }

func valueOK(v api.Value) bool {
	switch v {
	case undefined(), null(), api.Value{Kind: api.KBool}, api.Value{Kind: api.KBool, Bool: true}:
		return true
	case num(v.Num):
		return true
	case text(v.Str):
		return stringOK(v.Str)
	case api.Value{Kind: api.KSym, Id: v.Id}:
		return v.Id >= 1 && v.Id <= 65536
	case ref(v.Id):
		return v.Id >= 1 && v.Id <= 65536
	}
	return v.Kind == api.KNum && v.Num != v.Num && v.Str == "" && v.Id == 0 && !v.Bool
}

func keyOK(k api.Key) bool {
	if k.Sym != 0 {
		return k.Str == "" && k.Sym >= 1 && k.Sym <= 65536
	}
	return stringOK(k.Str)
}

func descOK(d api.Desc) bool {
	no := api.Value{}
	for _, f := range []api.Value{d.Get, d.Set} {
		if f != no && f != undefined() && (f.Kind != api.KRef || !valueOK(f)) {
			return false
		}
	}
	if slices.ContainsFunc([]api.Tri{d.Writable, d.Enumerable, d.Configurable}, func(t api.Tri) bool { return t < 0 || t > 2 }) {
		return false
	}
	return (d.Value == no || valueOK(d.Value)) && !((d.Value != no || d.Writable != 0) && (d.Get != no || d.Set != no))
}

func (m *model) missing(v api.Value) bool {
	return v.Kind == api.KRef && v.Id > len(m.things)
}

func (m *model) none(o int) bool { return o < 1 || o > len(m.things) }

func (m *model) Check(v api.Value) api.Errno {
	if !valueOK(v) {
		return api.ErrValue
	}
	if m.missing(v) {
		return api.ErrRef
	}
	return 0
}

func (m *model) Class(o int) (int, api.Errno) {
	if m.none(o) {
		return 0, api.ErrRef
	}
	return m.things[o-1].shape.Class, 0
}

func (m *model) Shape(o int) (api.Shape, api.Errno) {
	if m.none(o) {
		return api.Shape{}, api.ErrRef
	}
	return m.things[o-1].shape, 0
}

func (m *model) Shapes() []api.Shape {
	var l []api.Shape
	for _, x := range m.things {
		s := x.shape
		s.Props = slices.Clone(s.Props)
		l = append(l, s)
	}
	return l
}

func (m *model) Callable(v api.Value) bool {
	return m.Check(v) == 0 && v.Kind == api.KRef && m.things[v.Id-1].does != nil
}

func (m *model) Constructor(v api.Value) bool {
	return m.Callable(v) && m.things[v.Id-1].ctor
}

// reason is one for which a method is refused, asked when it is its turn.
type reason struct {
	e    api.Errno
	asks func() bool
}

func (m *model) noObject(o int) reason {
	return reason{api.ErrRef, func() bool { return m.none(o) }}
}

func noKey(k api.Key) reason { return reason{api.ErrValue, func() bool { return !keyOK(k) }} }

func noValues(l ...api.Value) reason {
	return reason{api.ErrValue, func() bool { return slices.ContainsFunc(l, func(v api.Value) bool { return !valueOK(v) }) }}
}

func (m *model) strange(l ...api.Value) reason {
	return reason{api.ErrRef, func() bool { return slices.ContainsFunc(l, m.missing) }}
}

// face is a method as it is called from outside.
func face[T any](m *model, reasons []reason, do func() T) (t T, err error) {
	for _, r := range reasons {
		if r.asks() {
			return t, r.e
		}
	}
	was := m.in
	defer func() {
		if p := recover(); p != nil {
			var nothing T
			t, err, m.in = nothing, p.(error), was
		}
	}()
	m.enter()
	t = do()
	m.in--
	return t, nil
}

func (m *model) enter() {
	if m.fuel < 1 {
		panic(api.ErrFuel)
	}
	m.fuel--
	if m.in >= m.depth {
		panic(api.ErrDepth)
	}
	m.in++
}

func (m *model) GetPrototypeOf(o int) (api.Value, error) {
	return face(m, []reason{m.noObject(o)}, func() api.Value { return m.things[o-1].shape.Proto })
}

func (m *model) SetPrototypeOf(o int, v api.Value) (bool, error) {
	wrong := reason{api.ErrValue, func() bool { return v != null() && v.Kind != api.KRef }}
	return face(m, []reason{m.noObject(o), noValues(v), m.strange(v), wrong}, func() bool {
		s := &m.things[o-1].shape
		if s.Proto == v {
			return true
		}
		for n, p := 0, v; s.Extensible && p != ref(o); n++ {
			if p == null() || m.things[p.Id-1].shape.Class == api.CProxy {
				s.Proto = v
				return true
			}
			p = m.things[p.Id-1].shape.Proto
		}
		return false
	})
}

func (m *model) IsExtensible(o int) (bool, error) {
	return face(m, []reason{m.noObject(o)}, func() bool { return m.things[o-1].shape.Extensible })
}

func (m *model) PreventExtensions(o int) (bool, error) {
	return face(m, []reason{m.noObject(o)}, func() bool {
		m.things[o-1].shape.Extensible = false
		return true
	})
}

// place is where a key lies in an object, -1, if it does not.
func (m *model) place(o int, k api.Key) int {
	return slices.IndexFunc(m.things[o-1].shape.Props, func(p api.Prop) bool { return p.Key == k })
}

func (m *model) lies(o int, k api.Key) *api.Desc {
	if i := m.place(o, k); i >= 0 {
		return &m.things[o-1].shape.Props[i].Desc
	}
	return nil
}

func (m *model) GetOwnProperty(o int, k api.Key) (api.Desc, bool, error) {
	d, err := face(m, []reason{m.noObject(o), noKey(k)}, func() *api.Desc { return m.lies(o, k) })
	if d == nil {
		return api.Desc{}, false, err
	}
	return *d, true, err
}

func (m *model) DefineOwnProperty(o int, k api.Key, d api.Desc) (bool, error) {
	broken := reason{api.ErrValue, func() bool { return !descOK(d) }}
	dumb := reason{api.ErrKind, func() bool {
		return d.Get.Kind == api.KRef && !m.Callable(d.Get) || d.Set.Kind == api.KRef && !m.Callable(d.Set)
	}}
	return face(m, []reason{m.noObject(o), noKey(k), broken, m.strange(d.Value, d.Get, d.Set), dumb}, func() bool { return m.define(o, k, d) })
}

func (m *model) define(o int, k api.Key, d api.Desc) bool {
	s, now := &m.things[o-1].shape, api.Desc{}
	if l := m.lies(o, k); l != nil {
		now = *l
	}
	next, ok, e := desc.Apply(s.Extensible, now, d)
	if e != 0 {
		panic(e)
	}
	if l := m.lies(o, k); ok && l != nil {
		*l = next
	} else if ok {
		s.Props = append(s.Props, api.Prop{Key: k, Desc: next})
	}
	return ok
}

// found is what an object, or the next one in its chain, has; all on the way are entered.
func (m *model) found(o int, k api.Key) *api.Desc {
	for {
		p := m.things[o-1].shape.Proto
		if d := m.lies(o, k); d != nil || p == null() {
			return d
		}
		o = p.Id
		m.enter()
	}
}

// left leaves all that was entered on the way to what was found.
func (m *model) left(n int) { m.in = n }

func (m *model) HasProperty(o int, k api.Key) (bool, error) {
	return face(m, []reason{m.noObject(o), noKey(k)}, func() bool {
		defer m.left(m.in)
		return m.found(o, k) != nil
	})
}

func (m *model) Get(o int, k api.Key, receiver api.Value) (api.Value, error) {
	return face(m, []reason{m.noObject(o), noKey(k), noValues(receiver), m.strange(receiver)}, func() api.Value {
		defer m.left(m.in)
		d := m.found(o, k)
		switch {
		case d == nil:
			return undefined()
		case d.Writable != api.Absent:
			return d.Value
		case d.Get == undefined():
			return undefined()
		}
		return must(m.Call(d.Get.Id, receiver, nil))
	})
}

// must goes on with an answer, and up with an error.
func must[T any](t T, err error) T {
	if err != nil {
		panic(err)
	}
	return t
}

func (m *model) Set(o int, k api.Key, v, receiver api.Value) (bool, error) {
	return face(m, []reason{m.noObject(o), noKey(k), noValues(v, receiver), m.strange(v, receiver)}, func() bool {
		defer m.left(m.in)
		d := m.found(o, k)
		if d != nil && d.Writable == api.Absent {
			if d.Set != undefined() {
				must(m.Call(d.Set.Id, receiver, []api.Value{v}))
			}
			return d.Set != undefined()
		}
		if d != nil && d.Writable == api.No || receiver.Kind != api.KRef {
			return false
		}
		own, ok, err := m.GetOwnProperty(receiver.Id, k)
		if !must(ok, err) {
			return must(m.DefineOwnProperty(receiver.Id, k, all(v)))
		}
		return own.Writable == api.Yes && must(m.DefineOwnProperty(receiver.Id, k, api.Desc{Value: v}))
	})
}

func (m *model) Delete(o int, k api.Key) (bool, error) {
	return face(m, []reason{m.noObject(o), noKey(k)}, func() bool {
		d := m.lies(o, k)
		if d != nil && d.Configurable == api.No {
			return false
		}
		if i := m.place(o, k); i >= 0 {
			s := &m.things[o-1].shape
			s.Props = slices.Delete(s.Props, i, i+1)
		}
		return true
	})
}

func (m *model) OwnPropertyKeys(o int) ([]api.Key, error) {
	return face(m, []reason{m.noObject(o)}, func() []api.Key {
		var l []api.Key
		for _, p := range m.things[o-1].shape.Props {
			l = append(l, p.Key)
		}
		slices.SortStableFunc(l, func(a, b api.Key) int { return rank(a) - rank(b) })
		return l
	})
}

// rank is an array index itself, then strings, then symbols.
func rank(k api.Key) int {
	n, err := strconv.ParseUint(k.Str, 10, 32)
	switch {
	case k.Sym != 0:
		return 1 << 41
	case err == nil && n < 1<<32-1 && strconv.FormatUint(n, 10) == k.Str:
		return int(n)
	}
	return 1 << 40
}

func (m *model) Call(f int, this api.Value, args []api.Value) (api.Value, error) {
	given := append([]api.Value{this}, args...)
	long := reason{api.ErrLong, func() bool { return len(args) > 1024 }}
	dumb := reason{api.ErrKind, func() bool { return m.things[f-1].does == nil }}
	return face(m, []reason{m.noObject(f), noValues(given...), m.strange(given...), long, dumb}, func() api.Value {
		return must(m.things[f-1].does(m, f, this, args))
	})
}

func (m *model) Construct(f int, args []api.Value, target int) (int, error) {
	long := reason{api.ErrLong, func() bool { return len(args) > 1024 }}
	dumb := reason{api.ErrKind, func() bool { return !m.things[f-1].ctor || !m.things[target-1].ctor }}
	return face(m, []reason{m.noObject(f), m.noObject(target), noValues(args...), m.strange(args...), long, dumb}, func() int {
		return must(built(m.things[f-1].does(m, f, ref(target), args)))
	})
}
