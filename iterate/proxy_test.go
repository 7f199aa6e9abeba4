package iterate_test

// Proxies with traps: which of them are called, and with what, by each call; and what they may hide, or tell, of the keys that a for-in loop meets.

import (
	"fmt"
	"slices"
	"strings"
	"testing"

	"cameo/api"
	"cameo/array"
	"cameo/heap"
	"cameo/iterate"
	"cameo/key"
	"cameo/proxy"
	"cameo/records"
)

// truth is an answer of yes or no as a value.
func truth(ok bool, err error) (api.Value, error) {
	return api.Value{Kind: api.KBool, Bool: ok && err == nil}, err
}

func arrayOf(h *heap.Heap, l ...api.Value) (api.Value, error) {
	n, err := array.Of(h, null(), l)
	return ref(n), err
}

// forwards does with the target, which is the first of what it is given, what the trap's method does.
func forwards(h *heap.Heap, trap string) does {
	return func(_ api.Value, l []api.Value) (api.Value, error) {
		o := l[0].Id
		switch trap {
		case "getPrototypeOf":
			return h.GetPrototypeOf(o)
		case "setPrototypeOf":
			return truth(h.SetPrototypeOf(o, l[1]))
		case "isExtensible":
			return truth(h.IsExtensible(o))
		case "preventExtensions":
			return truth(h.PreventExtensions(o))
		case "ownKeys":
			keys, err := h.OwnPropertyKeys(o)
			if err != nil {
				return api.Value{}, err
			}
			var values []api.Value
			for _, k := range keys {
				values = append(values, word(k))
			}
			return arrayOf(h, values...)
		case "apply", "construct":
			return forwardsCall(h, trap, l)
		}
		return forwardsKey(h, trap, l)
	}
}

func forwardsCall(h *heap.Heap, trap string, l []api.Value) (api.Value, error) {
	if trap == "apply" {
		given, err := records.List(h, l[2])
		if err != nil {
			return api.Value{}, err
		}
		return h.Call(l[0].Id, l[1], given)
	}
	given, err := records.List(h, l[1])
	if err != nil {
		return api.Value{}, err
	}
	n, err := h.Construct(l[0].Id, given, l[2].Id)
	return ref(n), err
}

func forwardsKey(h *heap.Heap, trap string, l []api.Value) (api.Value, error) {
	o := l[0].Id
	k, _ := key.Of(l[1])
	switch trap {
	case "defineProperty":
		d, err := records.To(h, l[2])
		if err != nil {
			return api.Value{}, err
		}
		return truth(h.DefineOwnProperty(o, k, d))
	case "has":
		return truth(h.HasProperty(o, k))
	case "get":
		return h.Get(o, k, l[2])
	case "set":
		return truth(h.Set(o, k, l[2], l[3]))
	case "deleteProperty":
		return truth(h.Delete(o, k))
	}
	d, ok, err := h.GetOwnProperty(o, k) // getOwnPropertyDescriptor
	if !ok || err != nil {
		return undefinedBeside(err), err
	}
	n, err := records.From(h, d, null())
	return ref(n), err
}

// always is a trap that answers a value.
func always(v api.Value) does {
	return func(api.Value, []api.Value) (api.Value, error) { return v, nil }
}

// trapping is a proxy of an object, whose handler has some traps, which are functions of Go.
func trapping(t *testing.T, h *heap.Heap, target int, traps map[string]does) int {
	t.Helper()
	handler := object(t, h, null())
	for _, name := range proxy.Traps() {
		if d := traps[name]; d != nil {
			lay(t, h, handler, has(name, ref(addNative(t, h, d))))
		}
	}
	return proxied(t, h, target, handler)
}

func undefinedBeside(err error) api.Value {
	if err != nil {
		return api.Value{}
	}
	return undefined()
}

// word is a key as a value.
func word(k api.Key) api.Value {
	if k.Sym != 0 {
		return symbol(k.Sym)
	}
	return text(k.Str)
}

// noting is a proxy with every trap, each of which writes down who is called, and for which key, and then forwards.
func noting(t *testing.T, h *heap.Heap, name string, target int, lines *[]string) int {
	t.Helper()
	traps := map[string]does{}
	for _, trap := range proxy.Traps() {
		on := forwards(h, trap)
		traps[trap] = func(this api.Value, l []api.Value) (api.Value, error) {
			line := name + " " + trap
			if len(l) > 1 && trap != "apply" {
				k, _ := key.Of(l[1])
				line += " " + nameOf(k)
			}
			*lines = append(*lines, line)
			return on(this, l)
		}
	}
	return trapping(t, h, target, traps)
}

// behindProxies is a heap in which everything is behind a proxy: what is gone through, its method, the iterator, next, what that answers, and return; and what a loop calls.
func behindProxies(t *testing.T, h *heap.Heap) (of, f, it, next api.Value, lines *[]string) {
	t.Helper()
	lines = new([]string)
	note := func(name string, o int) api.Value { return ref(noting(t, h, name, o, lines)) }
	r := note("result", object(t, h, null(), has("value", num(1)), has("done", no())))
	next = note("next", giving(t, h, r))
	back := note("return", giving(t, h, r))
	it = note("iterator", object(t, h, null(), has("next", next), has("return", back)))
	method := note("method", giving(t, h, it))
	f = note("f", giving(t, h, no()))
	of = note("object", object(t, h, null(), marked(api.SymIterator, data(method, "wec"))))
	return of, f, it, next, lines
}

// Which traps each call runs into.
func TestEveryTrap(t *testing.T) {
	h := newHeap(t, 2000, 1<<20, 20)
	of, f, it, next, lines := behindProxies(t, h)
	const get, step, closes = "object get @4|method apply|iterator get \"next\"", "next apply|result get \"done\"|result get \"value\"", "iterator get \"return\"|return apply"
	for _, row := range []struct {
		act   func() (string, error)
		lines string
	}{
		{func() (string, error) { return said(iterate.Get(h, of)) }, get},
		{func() (string, error) {
			_, over, err := iterate.Step(h, api.Iterator{Object: it.Id, Next: next})
			return said(over, err)
		}, step},
		{func() (string, error) { return "", iterate.Close(h, api.Iterator{Object: it.Id}, nil) }, ""},
		{func() (string, error) { return "", iterate.Close(h, api.Iterator{Object: it.Id, Next: next}, nil) }, closes},
		{func() (string, error) { return said(iterate.ForOf(h, of, f)) }, get + "|" + step + "|f apply|" + closes},
		{func() (string, error) { return said(iterate.ForIn(h, it)) }, "iterator ownKeys|iterator getOwnPropertyDescriptor \"next\"|iterator getOwnPropertyDescriptor \"return\"|iterator getPrototypeOf"},
	} {
		*lines = nil
		s, err := row.act()
		if got := strings.Join(*lines, "|"); got != row.lines || (err != nil) != (row.lines == "") {
			t.Errorf("%s, %v: %s; want %s", s, err, got, row.lines)
		}
	}
}

// Array iterators, makers and what asks them behind proxies: a maker's receiver may be a proxy; a proxy of an array iterator is none.
func TestProxiesOfIterators(t *testing.T) {
	for _, kind := range kinds() {
		m := newMidst(t, kind)
		lines := new([]string)
		a := m.array(num(1), num(2))
		p := ref(noting(t, m.h, "array", a, lines))
		maker, next := ref(noting(t, m.h, "maker", m.maker, lines)), ref(noting(t, m.h, "next", m.next, lines))
		it, err := m.h.Call(maker.Id, p, nil)
		if err != nil || !sameShape(shapeOf(t, m.h, it.Id), of(api.CIterator, ref(2))) {
			t.Fatalf("23.1: %v, %v", it, err)
		}
		for i := range 3 {
			if _, err := m.h.Call(next.Id, it, nil); err != nil {
				t.Errorf("23.2: %d: %v", i, err)
			}
		}
		want := "maker apply"
		for _, i := range []string{"0", "1"} {
			want += "|next apply|array get \"length\""
			if kind != api.IKeys {
				want += "|array get \"" + i + "\""
			}
		}
		if got := strings.Join(*lines, "|"); got != want+"|next apply|array get \"length\"" {
			t.Errorf("23.2: %s; want %s", got, want)
		}
		hidden := noting(t, m.h, "iterator", m.iterator(a).Id, lines)
		*lines = nil
		if _, err := m.h.Call(m.next, ref(hidden), nil); !sameError(err, typeError()) || len(*lines) > 0 {
			t.Errorf("23.2: %v, %q", err, *lines)
		}
		if _, err := m.h.Call(m.next, ref(proxied(t, m.h, m.iterator(a).Id, object(t, m.h, null()))), nil); !sameError(err, typeError()) {
			t.Errorf("23.2: %v", err)
		}
	}
}

// What traps hide, or tell otherwise, where nothing has been promised: b is enumerable, hidden is not; both are also behind the proxy, in its prototype.
func TestLyingKeys(t *testing.T) {
	for _, row := range []struct {
		trap string
		does func(h *heap.Heap, l []api.Value) (api.Value, error)
		want string
	}{
		{"", nil, "a b above"},
		{"ownKeys", func(h *heap.Heap, _ []api.Value) (api.Value, error) { return arrayOf(h) }, "b hidden above"},
		{"ownKeys", func(h *heap.Heap, _ []api.Value) (api.Value, error) {
			return arrayOf(h, text("b"), symbol(3), text("none"), text("a"))
		}, "b a hidden above"},
		{"ownKeys", func(h *heap.Heap, _ []api.Value) (api.Value, error) {
			return arrayOf(h, text("z"), text("10"), text("9"))
		}, "b hidden above"}, // of which there is none
		{"getOwnPropertyDescriptor", func(h *heap.Heap, l []api.Value) (api.Value, error) { return undefined(), nil }, "b hidden above"},
		{"getOwnPropertyDescriptor", func(h *heap.Heap, l []api.Value) (api.Value, error) {
			n, err := records.From(h, data(num(1), "wec"), null())
			return ref(n), err
		}, "a b hidden above"},
		{"getOwnPropertyDescriptor", func(h *heap.Heap, l []api.Value) (api.Value, error) {
			n, err := records.From(h, data(num(1), "wc"), null())
			return ref(n), err
		}, "above"},
		{"getPrototypeOf", func(*heap.Heap, []api.Value) (api.Value, error) { return null(), nil }, "a b"},
		{"getPrototypeOf", func(h *heap.Heap, _ []api.Value) (api.Value, error) { return ref(3), nil }, "a b other"},
	} {
		h := newHeap(t, 200, 10000, 20)
		above := object(t, h, null(), has("b", num(1)), has("hidden", num(1)), has("above", num(1)))
		target := object(t, h, ref(above), has("a", num(1)), has("b", num(1)), is("hidden", data(num(1), "wc")), marked(3, data(num(1), "wec")))
		object(t, h, null(), has("a", num(1)), has("hidden", num(1)), has("other", num(1)))
		p := trapping(t, h, target, map[string]does{row.trap: func(_ api.Value, l []api.Value) (api.Value, error) { return row.does(h, l) }})
		for range 2 {
			l, err := iterate.ForIn(h, ref(p))
			if err != nil || !slices.Equal(l, splits(row.want)) {
				t.Errorf("23.9: %s: %v, %v; want %s", row.trap, l, err, row.want)
			}
			p = proxied(t, h, p, object(t, h, null()))
		}
	}
}

// Traps that go against what the target has promised throw; so do such as answer nonsense. What was met ahead of that is told by nobody.
func TestBrokenPromises(t *testing.T) {
	for trap, answers := range map[string][]api.Value{
		"ownKeys":                  {undefined(), num(1), ref(1), ref(2), ref(5), ref(6), ref(7)},
		"getOwnPropertyDescriptor": {undefined(), num(1), ref(3), text("x")},
		"getPrototypeOf":           {undefined(), num(1), null(), ref(1), text("x")},
	} {
		for _, v := range answers {
			h := newHeap(t, 200, 10000, 20)
			arrayOf(h)
			arrayOf(h, text("a"))
			object(t, h, null(), has("value", num(2)), has("enumerable", yes()))
			target := fixed(t, h, ref(3), has("a", num(1)), is("b", data(num(1), "e")))
			arrayOf(h, text("a"), text("b"), text("a"))
			arrayOf(h, text("a"), text("b"), num(1))
			arrayOf(h, text("a"), text("b"), text("c"))
			p := trapping(t, h, target, map[string]does{trap: always(v)})
			if l, err := iterate.ForIn(h, ref(p)); l != nil || !sameError(err, typeError()) {
				t.Errorf("23.9: %s answers %v: %v, %v", trap, v, l, err)
			}
			child := object(t, h, ref(p), has("own", num(1)))
			if l, err := iterate.ForIn(h, ref(child)); l != nil || !sameError(err, typeError()) {
				t.Errorf("23.9: %s answers %v: %v, %v", trap, v, l, err)
			}
		}
	}
}

// A proxy that says that it is its own prototype: the chain has no end, but fuel has; no key is told twice.
func TestChainsWithoutEnd(t *testing.T) {
	for fuel := range 60 {
		h := newHeap(t, 60, 10000, 20)
		object(t, h, null(), has("a", num(1)), has("b", num(1)))
		rounds, p := 0, 0
		p = trapping(t, h, 1, map[string]does{"getPrototypeOf": func(api.Value, []api.Value) (api.Value, error) {
			if rounds++; rounds == 4 {
				return null(), nil
			}
			return ref(p), nil
		}})
		// The keys and names each cost a unit for the proxy, the trap's Get, and the target; the prototype the proxy, Get, the trap's call, and whether the target is extensible.
		const whole = 3 + 3 + 3 + 4 + 3*(3+4)
		want, wrong, spent := "[{a 0} {b 0}]", error(nil), whole
		if fuel < whole {
			want, wrong, spent = "", api.ErrFuel, fuel
		}
		h.Refuel(fuel)
		s, err := ask("ForIn", ref(p)).played(h)
		if s != want || err != wrong || fuel-h.Fuel() != spent {
			t.Errorf("23.9: fuel %d: %s, %v, %d spent; want %s, %v, %d", fuel, s, err, fuel-h.Fuel(), want, wrong, spent)
		}
	}
	h := newHeap(t, 60, 100000, 20)
	p := 0
	p = trapping(t, h, object(t, h, null(), has("a", num(1))), map[string]does{"getPrototypeOf": func(api.Value, []api.Value) (api.Value, error) { return ref(p), nil }})
	ask("ForIn", ref(p)).stays(t, h, 100000, nil, api.ErrFuel)
}

// A program that a trap runs, ahead of what it forwards to or behind it: the object is an heir of 1, all of whose names it hides or not.
func TestTrapsInTheMidst(t *testing.T) {
	for _, row := range []struct {
		trap   string
		turn   int // of the trap, from 1 on
		behind bool
		do     string // what is done to the target's b
		want   string
	}{
		{"ownKeys", 1, false, "delete", "a c b"}, {"ownKeys", 1, true, "delete", "a c b"}, {"ownKeys", 1, false, "hide", "a c"}, {"ownKeys", 1, true, "hide", "a c"},
		{"ownKeys", 1, false, "anew", "a c b"}, {"ownKeys", 1, true, "anew", "a b c"}, {"ownKeys", 1, false, "more", "a b c new"}, {"ownKeys", 1, true, "more", "a b c"},
		{"getOwnPropertyDescriptor", 1, false, "delete", "a c b"}, {"getOwnPropertyDescriptor", 1, true, "hide", "a c"}, {"getOwnPropertyDescriptor", 1, true, "more", "a b c"},
		{"getOwnPropertyDescriptor", 2, false, "delete", "a c b"}, {"getOwnPropertyDescriptor", 2, true, "delete", "a b c"}, {"getOwnPropertyDescriptor", 2, true, "hide", "a b c"}, {"getOwnPropertyDescriptor", 2, false, "hide", "a c"},
		{"getOwnPropertyDescriptor", 3, false, "delete", "a b c"}, {"getOwnPropertyDescriptor", 3, false, "above", "a b c above"},
		{"getPrototypeOf", 1, false, "delete", "a b c"}, {"getPrototypeOf", 1, true, "above", "a b c above"}, {"getPrototypeOf", 1, false, "orphan", "a b c"}, {"getPrototypeOf", 1, false, "above", "a b c above"},
	} {
		h := newHeap(t, 200, 10000, 20)
		object(t, h, null(), has("b", num(1)), has("a", num(1)))
		o := object(t, h, ref(1), has("a", num(1)), has("b", num(2)), has("c", num(3)))
		on, turns, m := forwards(h, row.trap), 0, heap.Ordinary{}
		do := func() {
			if turns != row.turn {
				return
			}
			switch row.do {
			case "delete":
				m.Delete(h, o, str("b"))
			case "hide":
				m.DefineOwnProperty(h, o, str("b"), api.Desc{Enumerable: api.No})
			case "anew":
				m.Delete(h, o, str("b"))
				lay(t, h, o, has("b", num(1)))
			case "more":
				lay(t, h, o, has("new", num(1)))
			case "above":
				lay(t, h, 1, has("above", num(1)))
			case "orphan":
				m.SetPrototypeOf(h, o, null())
			}
		}
		p := trapping(t, h, o, map[string]does{row.trap: func(this api.Value, l []api.Value) (api.Value, error) {
			turns++
			if !row.behind {
				do()
			}
			v, err := on(this, l)
			if row.behind {
				do()
			}
			return v, err
		}})
		if l, err := iterate.ForIn(h, ref(p)); err != nil || !slices.Equal(l, splits(row.want)) {
			t.Errorf("23.9: %+v: %v, %v", row, l, err)
		}
	}
}

// A proxy that is revoked in the midst ends what is under way as it would have, and throws where it is asked next; an array iterator over it is at its end then.
func TestRevokedInTheMidst(t *testing.T) {
	for _, trap := range []string{"ownKeys", "getOwnPropertyDescriptor", "getPrototypeOf", "get"} {
		m := newMidst(t, api.IValues)
		o := m.array(num(1), num(2))
		on, p := forwards(m.h, trap), 0
		p = trapping(t, m.h, o, map[string]does{trap: func(this api.Value, l []api.Value) (api.Value, error) {
			if fmt.Sprint(l[1:]) != "[]" && l[1] == symbol(api.SymIterator) {
				return on(this, l)
			}
			proxy.Revoke(m.h, p)
			return on(this, l)
		}})
		it := m.iterator(p)
		l, err := iterate.ForIn(m.h, ref(p))
		switch trap {
		case "get":
			if err != nil || !slices.Equal(l, splits("0 1")) {
				t.Errorf("23.9: %v, %v", l, err)
			}
			if _, err := iterate.List(m.h, ref(p)); !sameError(err, typeError()) {
				t.Errorf("23.7: %v", err)
			}
		case "getPrototypeOf": // the last thing that is asked of it
			if err != nil || !slices.Equal(l, splits("0 1")) {
				t.Errorf("23.9: %v, %v", l, err)
			}
		default:
			if l != nil || !sameError(err, typeError()) {
				t.Errorf("23.9: %s: %v, %v", trap, l, err)
			}
		}
		if _, err := m.asks(it); !sameError(err, typeError()) {
			t.Errorf("23.2: %s: %v", trap, err)
		}
		m.over(it)
	}
}
