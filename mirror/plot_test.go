package mirror_test

// What each call does among objects that write down what is entered (22.2 to 22.8): its steps, what these change, what is made, and what the call comes to, worked out from how the objects lie there alone.

import (
	"fmt"
	"slices"
	"strconv"

	"cameo/api"
	"cameo/desc"
	"cameo/key"
	"cameo/number"
)

// over ends a plot early.
type over struct{ err error }

func (p *plot) ends(err error) { panic(over{err}) }
func (p *plot) throws()        { p.ends(typeError()) }

// ordered is the keys of a shape, indices first, then strings, then symbols.
func ordered(s api.Shape) []api.Key {
	var numbers []int
	var words, symbols []api.Key
	for _, p := range s.Props {
		n, err := strconv.Atoi(p.Key.Str)
		switch {
		case p.Key.Sym != 0:
			symbols = append(symbols, p.Key)
		case err == nil && n >= 0 && n < 1<<32-1 && strconv.Itoa(n) == p.Key.Str:
			numbers = append(numbers, n)
		default:
			words = append(words, p.Key)
		}
	}
	slices.Sort(numbers)
	var l []api.Key
	for _, n := range numbers {
		l = append(l, str(strconv.Itoa(n)))
	}
	return append(append(l, words...), symbols...)
}

func place(s api.Shape, k api.Key) int {
	return slices.IndexFunc(s.Props, func(p api.Prop) bool { return p.Key == k })
}

// find is an object's property as it lies there now.
func (p *plot) find(o int, k api.Key) (api.Desc, bool) {
	s := p.now()[o-1]
	if at := place(s, k); at >= 0 {
		return s.Props[at].Desc, true
	}
	return api.Desc{}, false
}

func (p *plot) proto(o int) api.Value { return p.now()[o-1].Proto }

func (p *plot) callable(v api.Value) bool {
	return v.Kind == api.KRef && p.now()[v.Id-1].Class == api.CNative
}

// The methods, each with all that it enters.

func (p *plot) keys(o int) []api.Key {
	p.step(1, o, "keys", nil)
	return ordered(p.now()[o-1])
}

func (p *plot) own(deep, o int, k api.Key) (api.Desc, bool) {
	p.step(deep, o, "own "+nameOf(k), nil)
	return p.find(o, k)
}

func (p *plot) get(deep, o int, k api.Key, receiver api.Value) api.Value {
	p.step(deep, o, "get "+nameOf(k)+" "+fmt.Sprint(receiver), nil)
	d, there := p.find(o, k)
	switch {
	case d.Get.Kind == api.KRef:
		return p.call(deep+1, d.Get.Id, receiver)
	case there && !isAccessor(d):
		return d.Value
	case !there && p.proto(o).Kind == api.KRef:
		return p.get(deep+1, p.proto(o).Id, k, receiver)
	}
	return undefined()
}

func (p *plot) has(deep, o int, k api.Key) bool {
	p.step(deep, o, "has "+nameOf(k), nil)
	_, there := p.find(o, k)
	if !there && p.proto(o).Kind == api.KRef {
		return p.has(deep+1, p.proto(o).Id, k)
	}
	return there
}

func (p *plot) set(deep, o int, k api.Key, v, receiver api.Value) bool {
	p.step(deep, o, "set "+nameOf(k)+" "+fmt.Sprint(v, receiver), nil)
	d, there := p.find(o, k)
	switch {
	case !there && p.proto(o).Kind == api.KRef:
		return p.set(deep+1, p.proto(o).Id, k, v, receiver)
	case d.Set.Kind == api.KRef:
		p.call(deep+1, d.Set.Id, receiver, v)
		return true
	case isAccessor(d) || d.Writable == api.No || receiver.Kind != api.KRef:
		return false
	}
	d, there = p.own(deep+1, receiver.Id, k)
	if !there {
		return p.define(deep+1, receiver.Id, k, data(v, "wec"))
	}
	return !isAccessor(d) && d.Writable == api.Yes && p.define(deep+1, receiver.Id, k, api.Desc{Value: v})
}

func (p *plot) define(deep, o int, k api.Key, d api.Desc) bool {
	was, _ := p.find(o, k)
	next, ok, _ := desc.Apply(p.now()[o-1].Extensible, was, d)
	p.step(deep, o, "define "+nameOf(k)+" "+tellDesc(d), func(s *api.Shape) {
		at := place(*s, k)
		if ok && at < 0 {
			s.Props = append(s.Props, api.Prop{Key: k, Desc: next})
		} else if ok {
			s.Props[at].Desc = next
		}
	})
	return ok
}

func (p *plot) delete(o int, k api.Key) bool {
	d, there := p.find(o, k)
	ok := !there || d.Configurable == api.Yes
	p.step(1, o, "delete "+nameOf(k), func(s *api.Shape) {
		s.Props = slices.DeleteFunc(s.Props, func(p api.Prop) bool { return ok && p.Key == k })
	})
	return ok
}

func (p *plot) reproto(o int, v api.Value) bool {
	ok := v == p.proto(o) || p.now()[o-1].Extensible
	for up := v; up.Kind == api.KRef; up = p.proto(up.Id) {
		ok = ok && (up.Id != o || v == p.proto(o))
	}
	p.step(1, o, "reproto "+fmt.Sprint(v), func(s *api.Shape) {
		if ok {
			s.Proto = v
		}
	})
	return ok
}

func (p *plot) call(deep, f int, this api.Value, l ...api.Value) api.Value {
	p.step(deep, f, "call "+fmt.Sprint(this, l), nil)
	return p.cast.answers[f]
}

// What other chapters say.

func (p *plot) primitive(v api.Value, hint string, names ...string) api.Value {
	if v.Kind != api.KRef {
		return v
	}
	how := p.get(1, v.Id, sym(api.SymToPrimitive), v)
	if how.Kind != api.KUndefined && how.Kind != api.KNull {
		if !p.callable(how) {
			p.throws()
		}
		x := p.call(1, how.Id, v, text(hint))
		if x.Kind == api.KRef {
			p.throws()
		}
		return x
	}
	for _, name := range names {
		if f := p.get(1, v.Id, str(name), v); p.callable(f) {
			if x := p.call(1, f.Id, v); x.Kind != api.KRef {
				return x
			}
		}
	}
	p.throws()
	return api.Value{}
}

func (p *plot) key(v api.Value) api.Key {
	k, e := key.Of(p.primitive(v, "string", "toString", "valueOf"))
	if e != api.OK {
		panic(e)
	}
	return k
}

// descriptor is a value as a descriptor.
func (p *plot) descriptor(v api.Value) api.Desc {
	if v.Kind != api.KRef {
		p.throws()
	}
	var d api.Desc
	read := func(name string) api.Value {
		if !p.has(1, v.Id, str(name)) {
			return api.Value{}
		}
		return p.get(1, v.Id, str(name), v)
	}
	flag := func(name string) api.Tri {
		switch v := read(name); {
		case v.Kind == api.KNone:
			return api.Absent
		case v.Kind == api.KUndefined, v.Kind == api.KNull, v == no(), v == text(""), v.Kind == api.KNum && (v.Num == 0 || v.Num != v.Num):
			return api.No
		}
		return api.Yes
	}
	function := func(name string) api.Value {
		f := read(name)
		if f.Kind != api.KNone && f.Kind != api.KUndefined && !p.callable(f) {
			p.throws()
		}
		return f
	}
	d.Enumerable = flag("enumerable")
	d.Configurable = flag("configurable")
	d.Value = read("value")
	d.Writable = flag("writable")
	d.Get = function("get")
	d.Set = function("set")
	if isAccessor(d) && (d.Value.Kind != api.KNone || d.Writable != api.Absent) {
		p.throws()
	}
	return d
}

// length is a value as a length, which is not whole here.
func (p *plot) length(v api.Value) float64 {
	switch v = p.primitive(v, "number", "valueOf", "toString"); v.Kind {
	case api.KNull:
		return 0
	case api.KBool:
		return map[bool]float64{true: 1}[v.Bool]
	case api.KNum:
		return v.Num
	case api.KStr:
		return number.Parse(v.Str)
	case api.KSym:
		p.throws()
	}
	return nan
}

// list is a value's members.
func (p *plot) list(v api.Value) []api.Value {
	if v.Kind != api.KRef {
		p.throws()
	}
	n := p.length(p.get(1, v.Id, str("length"), v))
	if n > api.MaxArgs {
		p.ends(api.ErrLong)
	}
	var l []api.Value
	for i := 0; float64(i)+1 <= n; i++ {
		l = append(l, p.get(1, v.Id, str(strconv.Itoa(i)), v))
	}
	return l
}

// What the calls have in common.

func (p *plot) object(v api.Value) int {
	switch v.Kind {
	case api.KUndefined, api.KNull:
		p.throws()
	case api.KStr: // which is empty
		return p.makes(wrapped(0)).Id
	case api.KRef:
		return v.Id
	}
	return p.makes(bare()).Id
}

func (p *plot) isObject(v api.Value) int {
	if v.Kind != api.KRef {
		p.throws()
	}
	return v.Id
}

func (p *plot) isPrototype(v api.Value) {
	if v.Kind != api.KRef && v.Kind != api.KNull {
		p.throws()
	}
}

// shown is what has to be done of each property that is there, and enumerable.
func (p *plot) shown(o int, symbols bool, do func(k api.Key)) {
	for _, k := range p.keys(o) {
		if k.Sym != 0 && !symbols {
			continue
		}
		if d, there := p.own(1, o, k); there && d.Enumerable == api.Yes {
			do(k)
		}
	}
}

func (p *plot) defineAll(o int, v api.Value) {
	props := p.object(v)
	var l []api.Prop
	p.shown(props, true, func(k api.Key) {
		l = append(l, api.Prop{Key: k, Desc: p.descriptor(p.get(1, props, k, ref(props)))})
	})
	for _, x := range l {
		if !p.define(1, o, x.Key, x.Desc) {
			p.throws()
		}
	}
}

// plotted is what an act must do.
func plotted(c cast, x act) (p *plot) {
	p = newPlot(c)
	defer func() {
		switch x := recover().(type) {
		case nil:
		case over:
			p.wrong = x.err
		default:
			panic(x)
		}
	}()
	switch x.name {
	case "Object", "IsArray", "Tag", "Apply", "Construct", "Create", "DefineProperties", "Descriptors", "Assign":
		p.works(x)
	case "Keys", "Values", "Entries", "Names", "Symbols", "HasOwn":
		p.lists(x)
	default:
		p.reflects(x)
	}
	return p
}

func (p *plot) works(x act) {
	v := x.v
	switch x.name {
	case "Object":
		p.want = p.object(v[0])
	case "IsArray":
		p.want = false
	case "Tag":
		p.want = p.tag(v[0])
	case "Apply":
		if !p.callable(v[0]) {
			p.throws()
		}
		l := p.list(v[2])
		p.want = p.call(1, v[0].Id, v[1], l...)
	case "Construct":
		if !p.callable(v[0]) || !p.callable(v[2]) {
			p.throws()
		}
		l := p.list(v[1])
		p.step(1, v[0].Id, "new "+fmt.Sprint(l, v[2].Id), nil)
		p.want = p.cast.answers[v[0].Id]
	case "Create":
		p.isPrototype(v[0])
		o := p.makes(api.Shape{Class: api.COrdinary, Proto: v[0], Extensible: true})
		if v[1] != undefined() {
			p.defineAll(o.Id, v[1])
		}
		p.want = o
	case "DefineProperties":
		p.defineAll(p.isObject(v[0]), v[1])
	case "Descriptors":
		o := p.object(v[0])
		keys := p.keys(o)
		r := p.makes(bare())
		for _, k := range keys {
			d, _ := p.own(1, o, k)
			p.define(1, r.Id, k, data(p.makes(telling(d)), "wec"))
		}
		p.want = r
	case "Assign":
		t := p.object(v[0])
		for _, source := range v[1:] {
			if source != undefined() && source != null() {
				p.assigns(t, p.object(source))
			}
		}
		p.want = ref(t)
	}
}

func (p *plot) assigns(t, s int) {
	p.shown(s, true, func(k api.Key) {
		if v := p.get(1, s, k, ref(s)); !p.set(1, t, k, v, ref(t)) {
			p.throws()
		}
	})
}

func (p *plot) tag(v api.Value) string {
	word := map[int]string{api.KUndefined: "Undefined", api.KNull: "Null", api.KBool: "Boolean", api.KNum: "Number", api.KStr: "String", api.KSym: "Symbol", api.KRef: "Object"}[v.Kind]
	if v.Kind == api.KRef {
		if p.callable(v) {
			word = "Function"
		}
		if x := p.get(1, v.Id, sym(api.SymToStringTag), v); x.Kind == api.KStr {
			word = x.Str
		}
	}
	return "[object " + word + "]"
}

func (p *plot) lists(x act) {
	o := p.object(x.v[0])
	var l []api.Value
	put := func(v api.Value) { l = append(l, v) }
	switch x.name {
	case "Keys":
		p.shown(o, false, func(k api.Key) { put(word(k)) })
	case "Values":
		p.shown(o, false, func(k api.Key) { put(p.get(1, o, k, ref(o))) })
	case "Entries":
		p.shown(o, false, func(k api.Key) { put(p.makes(listed(word(k), p.get(1, o, k, ref(o))))) })
	case "Names", "Symbols":
		for _, k := range p.keys(o) {
			if (k.Sym != 0) == (x.name == "Symbols") {
				put(word(k))
			}
		}
	case "HasOwn":
		_, p.want = p.own(1, o, p.key(x.v[1]))
		return
	}
	p.want = p.makes(listed(l...))
}

func (p *plot) reflects(x act) {
	v := x.v
	o := p.isObject(v[0])
	switch x.name {
	case "GetPrototypeOf":
		p.step(1, o, "proto", nil)
		p.want = p.proto(o)
		return
	case "SetPrototypeOf":
		p.isPrototype(v[1])
		p.want = p.reproto(o, v[1])
		return
	case "IsExtensible":
		p.step(1, o, "ext", nil)
		p.want = p.now()[o-1].Extensible
		return
	case "PreventExtensions":
		p.step(1, o, "prevent", func(s *api.Shape) { s.Extensible = false })
		p.want = true
		return
	case "OwnKeys":
		var l []api.Value
		for _, k := range p.keys(o) {
			l = append(l, word(k))
		}
		p.want = p.makes(listed(l...))
		return
	}
	switch k := p.key(v[1]); x.name {
	case "DefineProperty":
		p.want = p.define(1, o, k, p.descriptor(v[2]))
	case "DeleteProperty":
		p.want = p.delete(o, k)
	case "Get":
		p.want = p.get(1, o, k, v[2])
	case "Set":
		p.want = p.set(1, o, k, v[2], v[3])
	case "Has":
		p.want = p.has(1, o, k)
	case "Descriptor":
		d, there := p.own(1, o, k)
		p.want = undefined()
		if there {
			p.want = p.makes(telling(d))
		}
	}
}
