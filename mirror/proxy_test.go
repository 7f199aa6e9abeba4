package mirror_test

// Proxies with every trap: each trap is called in its turn, and given what it must be; and traps that refuse or lie.

import (
	"fmt"
	"slices"
	"strings"
	"testing"

	"cameo/api"
	"cameo/array"
	"cameo/heap"
	"cameo/key"
	"cameo/proxy"
	"cameo/records"
)

// truth is an answer of yes or no as a value.
func truth(ok bool, err error) (api.Value, error) {
	return api.Value{Kind: api.KBool, Bool: ok && err == nil}, err
}

func arrayOf(h *heap.Heap, l ...api.Value) (api.Value, error) {
	n, err := array.Of(h, null(), l)
	return ref(n), err
}

// forwards does with the target, which is the first of what it is given, what the trap's method does.
func forwards(h *heap.Heap, trap string) does {
	return func(_ api.Value, l []api.Value) (api.Value, error) {
		o := l[0].Id
		switch trap {
		case "getPrototypeOf":
			return h.GetPrototypeOf(o)
		case "setPrototypeOf":
			return truth(h.SetPrototypeOf(o, l[1]))
		case "isExtensible":
			return truth(h.IsExtensible(o))
		case "preventExtensions":
			return truth(h.PreventExtensions(o))
		case "ownKeys":
			keys, err := h.OwnPropertyKeys(o)
			if err != nil {
				return api.Value{}, err
			}
			var values []api.Value
			for _, k := range keys {
				values = append(values, word(k))
			}
			return arrayOf(h, values...)
		case "apply", "construct":
			return forwardsCall(h, trap, l)
		}
		return forwardsKey(h, trap, l)
	}
}

func forwardsCall(h *heap.Heap, trap string, l []api.Value) (api.Value, error) {
	if trap == "apply" {
		given, err := records.List(h, l[2])
		if err != nil {
			return api.Value{}, err
		}
		return h.Call(l[0].Id, l[1], given)
	}
	given, err := records.List(h, l[1])
	if err != nil {
		return api.Value{}, err
	}
	n, err := h.Construct(l[0].Id, given, l[2].Id)
	return ref(n), err
}

func forwardsKey(h *heap.Heap, trap string, l []api.Value) (api.Value, error) {
	o := l[0].Id
	k, _ := key.Of(l[1])
	switch trap {
	case "defineProperty":
		d, err := records.To(h, l[2])
		if err != nil {
			return api.Value{}, err
		}
		return truth(h.DefineOwnProperty(o, k, d))
	case "has":
		return truth(h.HasProperty(o, k))
	case "get":
		return h.Get(o, k, l[2])
	case "set":
		return truth(h.Set(o, k, l[2], l[3]))
	case "deleteProperty":
		return truth(h.Delete(o, k))
	}
	d, ok, err := h.GetOwnProperty(o, k) // getOwnPropertyDescriptor
	if !ok || err != nil {
		return undefinedBeside(err), err
	}
	n, err := records.From(h, d, null())
	return ref(n), err
}

// always is a trap that answers a value.
func always(v api.Value) does {
	return func(api.Value, []api.Value) (api.Value, error) { return v, nil }
}

// trapping is a proxy of an object, whose handler has some traps, which are functions of Go.
func trapping(t *testing.T, h *heap.Heap, target int, traps map[string]does) int {
	t.Helper()
	handler := object(t, h, null())
	for _, name := range proxy.Traps() {
		if d := traps[name]; d != nil {
			lay(t, h, handler, has(name, ref(addNative(t, h, d))))
		}
	}
	return proxied(t, h, target, handler)
}

// noting is a proxy with every trap, each of which writes down that it was called, for which key, and what else it is given, and then forwards.
func noting(t *testing.T, h *heap.Heap, target int, lines *[]string) int {
	t.Helper()
	traps := map[string]does{}
	for _, trap := range proxy.Traps() {
		on := forwards(h, trap)
		traps[trap] = func(this api.Value, l []api.Value) (api.Value, error) {
			line, rest := trap, l[1:]
			if len(rest) > 0 && (rest[0].Kind == api.KStr || rest[0].Kind == api.KSym) && trap != "apply" {
				k, _ := key.Of(rest[0])
				line, rest = line+" "+nameOf(k), rest[1:]
			}
			for _, v := range rest {
				line += " " + short(h, v)
			}
			*lines = append(*lines, line)
			return on(this, l)
		}
	}
	return trapping(t, h, target, traps)
}

// short is a value in few words: an object that was made on the way by what it has.
func short(h *heap.Heap, v api.Value) string {
	if v.Kind != api.KRef {
		return fmt.Sprint([]any{"none", "undefined", "null", v.Bool, v.Num, v.Str, v.Id}[v.Kind])
	}
	if v.Id <= 20 {
		return fmt.Sprint("#", v.Id)
	}
	s, _ := h.Shape(v.Id)
	var l []string
	for _, p := range s.Props {
		if p.Key != str("length") {
			l = append(l, p.Key.Str+"="+short(h, p.Desc.Value))
		}
	}
	return "{" + strings.Join(l, " ") + "}"
}

// The objects of trapped: a target, its proxy, one that is a function, and its proxy, one beside them, and a property's attributes.
type trapped struct {
	h                                  *heap.Heap
	lines                              *[]string
	target, proxy, f, call, beside, at int
}

func newTrapped(t *testing.T) trapped {
	t.Helper()
	h, lines := newHeap(t, 2000, 100000, 20), new([]string)
	x := trapped{h: h, lines: lines}
	x.at = object(t, h, null(), has("value", num(4)), has("enumerable", yes()))
	x.target = object(t, h, null(), has("b", ref(x.at)), is("hidden", data(num(1), "wc")), marked(3, data(ref(x.at), "wec")), has("7", ref(x.at)))
	n, err := h.Add(api.CNative, null(), maker{}, role{&diary{}, ref(x.at)})
	x.f = made(t, n, err)
	x.beside = object(t, h, null(), has("b", ref(x.at)), has("length", num(2)), has("0", text("x")))
	for h.Len() < 20 { // those with greater numbers are handlers, traps, and what is made on the way
		object(t, h, null())
	}
	x.proxy, x.call = noting(t, h, x.target, lines), noting(t, h, x.f, lines)
	return x
}

// Each call of a proxy with every trap: which of them are called, and with what.
func TestEveryTrap(t *testing.T) {
	// p is the proxy, o its target, c and f the function's; b stands beside them, at is attributes.
	for _, row := range []struct {
		act   func(x trapped) act
		lines string
	}{
		{func(x trapped) act { return ask("Object", ref(x.proxy)) }, ""},
		{func(x trapped) act { return ask("IsArray", ref(x.proxy)) }, ""},
		{func(x trapped) act { return ask("Tag", ref(x.proxy)) }, "get @12 P"},
		{func(x trapped) act { return ask("Tag", ref(x.call)) }, "get @12 C"},
		{func(x trapped) act { return ask("Apply", ref(x.call), num(1), ref(x.beside)) }, "apply 1 {0=x 1=undefined}"},
		{func(x trapped) act { return ask("Apply", ref(x.f), num(1), ref(x.proxy)) }, "get \"length\" P"},
		{func(x trapped) act { return ask("Construct", ref(x.call), ref(x.beside), ref(x.f)) }, "construct {0=x 1=undefined} #3"},
		{func(x trapped) act { return ask("Construct", ref(x.f), ref(x.proxy), ref(x.call)) }, "get \"length\" P"},
		{func(x trapped) act { return ask("DefineProperty", ref(x.proxy), text("n"), ref(x.at)) }, "defineProperty \"n\" {value=4 enumerable=true}"},
		{func(x trapped) act { return ask("DefineProperty", ref(x.beside), text("n"), ref(x.proxy)) }, "has \"enumerable\"|has \"configurable\"|has \"value\"|has \"writable\"|has \"get\"|has \"set\""},
		{func(x trapped) act { return ask("DeleteProperty", ref(x.proxy), symbol(3)) }, "deleteProperty @3"},
		{func(x trapped) act { return ask("Get", ref(x.proxy), num(7), text("me")) }, "get \"7\" me"},
		{func(x trapped) act { return ask("Set", ref(x.proxy), text("b"), num(8), ref(x.beside)) }, "set \"b\" 8 #4"},
		{func(x trapped) act { return ask("Has", ref(x.proxy), null()) }, "has \"null\""},
		{func(x trapped) act { return ask("HasOwn", ref(x.proxy), yes()) }, "getOwnPropertyDescriptor \"true\""},
		{func(x trapped) act { return ask("Descriptor", ref(x.proxy), text("hidden")) }, "getOwnPropertyDescriptor \"hidden\""},
		{func(x trapped) act { return ask("GetPrototypeOf", ref(x.proxy)) }, "getPrototypeOf"},
		{func(x trapped) act { return ask("SetPrototypeOf", ref(x.proxy), ref(x.beside)) }, "setPrototypeOf #4"},
		{func(x trapped) act { return ask("SetPrototypeOf", ref(x.proxy), null()) }, "setPrototypeOf null"},
		{func(x trapped) act { return ask("IsExtensible", ref(x.proxy)) }, "isExtensible"},
		{func(x trapped) act { return ask("PreventExtensions", ref(x.proxy)) }, "preventExtensions"},
		{func(x trapped) act { return ask("OwnKeys", ref(x.proxy)) }, "ownKeys"},
		{func(x trapped) act { return ask("Names", ref(x.proxy)) }, "ownKeys"},
		{func(x trapped) act { return ask("Symbols", ref(x.proxy)) }, "ownKeys"},
		{func(x trapped) act { return ask("Keys", ref(x.proxy)) }, "ownKeys|own \"7\"|own \"b\"|own \"hidden\""},
		{func(x trapped) act { return ask("Values", ref(x.proxy)) }, "ownKeys|own \"7\"|get \"7\" P|own \"b\"|get \"b\" P|own \"hidden\""},
		{func(x trapped) act { return ask("Entries", ref(x.proxy)) }, "ownKeys|own \"7\"|get \"7\" P|own \"b\"|get \"b\" P|own \"hidden\""},
		{func(x trapped) act { return ask("Descriptors", ref(x.proxy)) }, "ownKeys|own \"7\"|own \"b\"|own \"hidden\"|own @3"},
		{func(x trapped) act { return ask("Assign", ref(x.beside), null(), ref(x.proxy)) }, "ownKeys|own \"7\"|get \"7\" P|own \"b\"|get \"b\" P|own \"hidden\"|own @3|get @3 P"},
		// Set of the target enters GetOwnProperty and DefineOwnProperty of the receiver, which is the proxy.
		{func(x trapped) act { return ask("Assign", ref(x.proxy), ref(x.at)) }, "set \"value\" 4 P|own \"value\"|defineProperty \"value\" {value=4 writable=true enumerable=true configurable=true}|set \"enumerable\" true P|own \"enumerable\"|defineProperty \"enumerable\" {value=true writable=true enumerable=true configurable=true}"},
		{func(x trapped) act { return ask("DefineProperties", ref(x.beside), ref(x.proxy)) }, "ownKeys|own \"7\"|get \"7\" P|own \"b\"|get \"b\" P|own \"hidden\"|own @3|get @3 P"},
		{func(x trapped) act { return ask("Create", ref(x.proxy), ref(x.proxy)) }, "ownKeys|own \"7\"|get \"7\" P|own \"b\"|get \"b\" P|own \"hidden\"|own @3|get @3 P"},
		{func(x trapped) act { return ask("DefineProperties", ref(x.proxy), ref(x.target)) }, "defineProperty \"7\" {value=4 enumerable=true}|defineProperty \"b\" {value=4 enumerable=true}|defineProperty @3 {value=4 enumerable=true}"},
		{func(x trapped) act { return ask("Has", ref(x.beside), ref(x.proxy)) }, "get @11 P|get \"toString\" P|get \"valueOf\" P"},
	} {
		x := newTrapped(t)
		a := row.act(x)
		s, err := a.played(x.h)
		name := map[string]string{"own": "getOwnPropertyDescriptor"}
		var want []string
		for _, line := range strings.Split(row.lines, "|") {
			first, rest, _ := strings.Cut(line, " ")
			if long := name[first]; long != "" {
				first = long
			}
			line = strings.TrimSpace(first + " " + rest)
			line = strings.ReplaceAll(line, " P", " "+short(x.h, ref(x.proxy)))
			line = strings.ReplaceAll(line, " C", " "+short(x.h, ref(x.call)))
			if line != "" {
				want = append(want, line)
			}
		}
		notKey := a.name == "Has" && a.v[1].Kind == api.KRef
		if !slices.Equal(*x.lines, want) || (err != nil) != notKey {
			t.Errorf("%v: %s, %v, %q; want %q", a, s, err, *x.lines, want)
		}
	}
}

// A proxy with every trap that forwards answers as its target does, and leaves that so; what is made on the way is in nothing of it.
func TestForwarding(t *testing.T) {
	for _, name := range names() {
		one, two := newTrapped(t), newTrapped(t)
		args := func(x trapped, o, f int) act {
			v := []api.Value{ref(o), text("b"), ref(x.at), ref(o)}[:takes()[name]]
			switch name {
			case "Apply":
				v = []api.Value{ref(f), num(1), ref(x.beside)}
			case "Construct":
				v = []api.Value{ref(f), ref(x.beside), ref(f)}
			case "SetPrototypeOf":
				v[1] = ref(x.beside)
			case "Assign", "DefineProperties":
				v = []api.Value{ref(o), ref(x.target)}
			case "Create":
				v = []api.Value{ref(x.at), ref(o)}
			}
			return act{name, v}
		}
		want, wrong := args(one, one.target, one.f).played(one.h)
		got, err := args(two, two.proxy, two.call).played(two.h)
		if !sameError(err, wrong) || len(*one.lines) > 0 || (len(*two.lines) == 0) != (name == "Object" || name == "IsArray") {
			t.Errorf("%s: %v, %q; want %v", name, err, *two.lines, wrong)
		}
		if got, want := plainly(two.h, got, two.proxy), plainly(one.h, want, one.target); got != want {
			t.Errorf("%s: %s; want %s", name, got, want)
		}
		if a, b := one.h.Shapes()[:20], two.h.Shapes()[:20]; !sameShapes(a, b) {
			t.Errorf("%s: %v; want %v", name, b, a)
		}
	}
}

// plainly is an answer, with what lies in it, if it is a new object; o is the object that was asked.
func plainly(h *heap.Heap, answer string, o int) string {
	var v api.Value
	if n, _ := fmt.Sscanf(answer, "{7 false 0  %d}", &v.Id); n == 0 && answer != fmt.Sprint(o) {
		return answer
	}
	if v.Id == o || v.Id == 0 {
		return "itself"
	}
	s, _ := h.Shape(v.Id)
	var l []string
	for _, p := range s.Props {
		x := p.Desc.Value
		if x.Kind == api.KRef && x.Id > 20 && x.Id != o {
			l = append(l, p.Key.Str+plainly(h, fmt.Sprint(x), o))
			continue
		}
		l = append(l, fmt.Sprint(p))
	}
	return fmt.Sprint(s.Class, s.Proto, l)
}

// refusal is what a trap answers, of a target with a, and b, which is fixed, and what a call comes to then. The target is 1, the proxy 2, another object 3.
type refusal struct {
	trap   string
	answer api.Value
	act    act
	want   any
	wrong  error
}

func refusals() []refusal {
	p, a, b, o := ref(2), text("a"), text("b"), ref(3)
	wrong := typeError()
	return []refusal{
		// What is not done is told by Reflect's functions, and thrown by Object's.
		{"defineProperty", no(), ask("DefineProperty", p, a, ref(4)), false, nil},
		{"defineProperty", num(0), ask("DefineProperties", p, o), nil, wrong},
		{"set", no(), ask("Set", p, a, num(1), p), false, nil},
		{"set", undefined(), ask("Assign", p, o), nil, wrong},
		{"set", text("yes"), ask("Assign", p, o), p, nil},
		{"deleteProperty", null(), ask("DeleteProperty", p, a), false, nil},
		{"deleteProperty", yes(), ask("DeleteProperty", p, a), true, nil},
		{"deleteProperty", yes(), ask("DeleteProperty", p, b), nil, wrong},
		{"setPrototypeOf", no(), ask("SetPrototypeOf", p, o), false, nil},
		{"setPrototypeOf", yes(), ask("SetPrototypeOf", p, o), true, nil},
		{"preventExtensions", no(), ask("PreventExtensions", p), false, nil},
		{"preventExtensions", yes(), ask("PreventExtensions", p), nil, wrong},
		{"isExtensible", no(), ask("IsExtensible", p), nil, wrong},
		{"isExtensible", o, ask("IsExtensible", p), true, nil},
		{"has", no(), ask("Has", p, a), false, nil},
		{"has", no(), ask("Has", p, b), nil, wrong},
		{"has", num(1), ask("Has", p, text("zz")), true, nil},
		{"getPrototypeOf", o, ask("GetPrototypeOf", p), o, nil},
		{"getPrototypeOf", num(5), ask("GetPrototypeOf", p), nil, wrong},
		{"get", num(5), ask("Get", p, a, p), num(5), nil},
		{"get", num(5), ask("Get", p, b, p), nil, wrong},
		{"get", text("Lie"), ask("Tag", p), "[object Lie]", nil},
		{"get", num(5), ask("Tag", p), "[object Object]", nil},
		{"get", num(5), ask("Values", p), nil, wrong},
		{"get", num(5), ask("Entries", p), nil, wrong},
		{"get", num(5), ask("Assign", o, p), nil, wrong},
		{"get", num(5), ask("DefineProperties", o, p), nil, wrong},
		{"get", o, ask("Create", null(), p), nil, wrong},
		// A property that is told as none is passed over, but one that is fixed cannot be.
		{"getOwnPropertyDescriptor", undefined(), ask("Descriptor", p, a), undefined(), nil},
		{"getOwnPropertyDescriptor", undefined(), ask("Descriptor", p, b), nil, wrong},
		{"getOwnPropertyDescriptor", undefined(), ask("HasOwn", p, a), false, nil},
		{"getOwnPropertyDescriptor", num(1), ask("HasOwn", p, a), nil, wrong},
		{"getOwnPropertyDescriptor", undefined(), ask("Keys", p), nil, wrong},
		{"getOwnPropertyDescriptor", undefined(), ask("Descriptors", p), nil, wrong},
		{"ownKeys", undefined(), ask("OwnKeys", p), nil, wrong},
		{"ownKeys", num(1), ask("Names", p), nil, wrong},
		{"ownKeys", ref(3), ask("Symbols", p), nil, wrong}, // without b
		{"ownKeys", ref(5), ask("Keys", p), nil, wrong},    // a twice
		{"ownKeys", ref(6), ask("Names", p), ref(8), nil},
		{"ownKeys", ref(6), ask("Keys", p), ref(8), nil}, // a key that is not there is passed over
		{"ownKeys", ref(6), ask("Descriptors", p), ref(8), nil},
		{"ownKeys", ref(6), ask("Assign", o, p), ref(3), nil},
	}
}

func TestTraps(t *testing.T) {
	for i, x := range refusals() {
		h := newHeap(t, 200, 10000, 20)
		object(t, h, null(), has("a", num(1)), is("b", data(num(2), "e")))
		proxied(t, h, 1, 1) // its handler is its target, until there is one
		object(t, h, null(), has("a", ref(4)))
		object(t, h, null(), has("value", num(1)), has("writable", yes()), has("enumerable", yes()), has("configurable", yes()))
		arrayOf(h, text("a"), text("b"), text("a"))
		arrayOf(h, text("c"), text("b"), symbol(9), text("a"))
		f := giving(t, h, x.answer)
		lay(t, h, 1, is(x.trap, data(ref(f), "wc"))) // a key, too, but one that is not shown, and that nobody has to tell
		want := fmt.Sprint(x.want)
		if x.wrong != nil {
			want = ""
		}
		if s, err := x.act.played(h); s != want || !sameError(err, x.wrong) {
			t.Errorf("%d: %s answers %v: %v: %s, %v; want %s, %v", i, x.trap, x.answer, x.act, s, err, want, x.wrong)
		}
		var lies []api.Value
		switch {
		case x.act.name == "Names" && x.wrong == nil:
			lies = []api.Value{text("c"), text("b"), text("a")}
		case x.act.name == "Keys" && x.wrong == nil:
			lies = []api.Value{text("b"), text("a")}
		}
		if lies != nil {
			if l := values(t, h, ref(8), nil); !sameValues(l, lies) {
				t.Errorf("%d: %v: %v; want %v", i, x.act, l, lies)
			}
		}
	}
}

// A trap that is no function, of each that a call comes to.
func TestNoTraps(t *testing.T) {
	for _, trap := range proxy.Traps() {
		for _, v := range []api.Value{num(1), text(""), no(), symbol(3), ref(1)} {
			h := newHeap(t, 60, 1000, 20)
			object(t, h, null(), has("a", num(1)), is(trap, data(v, "")))
			n, err := h.Add(api.CNative, null(), maker{}, role{&diary{}, ref(1)})
			f := made(t, n, err)
			p := proxied(t, h, f, 1)
			l := object(t, h, null(), has("length", num(0)))
			x := map[string]act{
				"getPrototypeOf": ask("GetPrototypeOf", ref(p)), "setPrototypeOf": ask("SetPrototypeOf", ref(p), null()), "isExtensible": ask("IsExtensible", ref(p)), "preventExtensions": ask("PreventExtensions", ref(p)),
				"getOwnPropertyDescriptor": ask("HasOwn", ref(p), text("a")), "defineProperty": ask("DefineProperty", ref(p), text("a"), ref(l)), "has": ask("Has", ref(p), text("a")), "get": ask("Tag", ref(p)), "set": ask("Assign", ref(p), ref(1)),
				"deleteProperty": ask("DeleteProperty", ref(p), text("a")), "ownKeys": ask("OwnKeys", ref(p)), "apply": ask("Apply", ref(p), null(), ref(l)), "construct": ask("Construct", ref(p), ref(l), ref(p)),
			}[trap]
			if s, err := x.played(h); s != "" || !sameError(err, typeError()) {
				t.Errorf("%v: %s, %v", x, s, err)
			}
		}
	}
}
