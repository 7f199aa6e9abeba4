package records_test

// 17.2: objects as descriptors: fields that are own, inherited, told by getters, missing; of any value; in their order, and what each step costs and throws.

import (
	"slices"
	"testing"

	"cameo/api"
)

// asks is the lines of To of an object that is the first one, and has these fields itself.
func asks(fields ...string) []string {
	var l []string
	for _, s := range names() {
		l = append(l, "has #1 "+s)
		if slices.Contains(fields, s) {
			l = append(l, "get #1 "+s+" #1")
		}
	}
	return l
}

// upTo is the lines up to one, this one too.
func upTo(l []string, line string) []string { return l[:slices.Index(l, line)+1] }

// own is a scene of an object with these properties, laid in this order, and the functions 2, 3 and 4, of which 4 can be constructed.
func own(want any, wrong error, lines []string, props ...api.Prop) scene {
	return scene{"17.2", func(s stage) act {
		o := addSeer(s.t, s.h, s.d, null())
		s.ending("f", num(1), nil)
		s.ending("g", num(1), nil)
		class(s.t, s.h)
		made(s.t, s.h, null())
		for _, p := range props {
			lay(s.t, s.h, o, p.Key, p.Desc)
		}
		return to(o)
	}, lines, want, wrong}
}

func TestToOwnFields(t *testing.T) {
	own(api.Desc{}, nil, asks()).holds(t)
	own(api.Desc{Value: num(1), Writable: api.Yes, Enumerable: api.No, Configurable: api.Yes}, nil, asks("value", "writable", "enumerable", "configurable"),
		has("value", num(1)), has("writable", yes()), has("enumerable", no()), has("configurable", yes())).holds(t)
	own(api.Desc{Get: ref(2), Set: ref(3), Enumerable: api.Yes, Configurable: api.No}, nil, asks("get", "set", "enumerable", "configurable"),
		has("set", ref(3)), has("get", ref(2)), has("configurable", no()), has("enumerable", yes())).holds(t)
	own(api.Desc{Get: ref(4), Set: undefined()}, nil, asks("get", "set"), has("get", ref(4)), has("set", undefined())).holds(t)
	own(api.Desc{Set: ref(4)}, nil, asks("set"), has("set", ref(4))).holds(t)
	// Other keys are not asked for.
	own(api.Desc{Value: null()}, nil, asks("value"), has("Value", num(1)), has("", num(1)), has("length", num(1)), api.Prop{Key: sym(1), Desc: open(num(1))}, has("value", null()), has("writable ", yes())).holds(t)
	// Whether a field is enumerable, configurable or writable itself is no matter.
	own(api.Desc{Value: num(5), Enumerable: api.Yes}, nil, asks("value", "enumerable"), api.Prop{Key: str("value"), Desc: api.Desc{Value: num(5)}}, api.Prop{Key: str("enumerable"), Desc: api.Desc{Value: yes()}}).holds(t)
}

// 17.2: of each set of fields, in whatever order they were laid: who is asked, and what comes of it.
func TestToEachSetOfFields(t *testing.T) {
	for set := range 1 << 6 {
		var fields []string
		var props []api.Prop
		var want api.Desc
		for i, s := range names() {
			if set&(1<<i) == 0 {
				continue
			}
			fields = append(fields, s)
			switch s {
			case "value":
				props, want.Value = append(props, has(s, text("v"))), text("v")
			case "get":
				props, want.Get = append(props, has(s, ref(2))), ref(2)
			case "set":
				props, want.Set = append(props, has(s, undefined())), undefined()
			case "writable":
				props, want.Writable = append(props, has(s, num(1))), api.Yes
			case "enumerable":
				props, want.Enumerable = append(props, has(s, num(0))), api.No
			case "configurable":
				props, want.Configurable = append(props, has(s, ref(5))), api.Yes
			}
		}
		var wrong error
		if (want.Get != api.Value{} || want.Set != api.Value{}) && (want.Value != api.Value{} || want.Writable != api.Absent) {
			wrong = typeError()
		}
		own(want, wrong, asks(fields...), props...).holds(t)
		slices.Reverse(props)
		own(want, wrong, asks(fields...), props...).holds(t)
	}
}

// 17.2: a flag is any value's truth.
func TestToFlags(t *testing.T) {
	for _, v := range append(plain(), ref(1), ref(2), ref(5)) {
		want := api.Yes
		switch {
		case v.Kind <= api.KNull, v == no(), v == text(""), v.Kind == api.KNum && (v.Num == 0 || v.Num != v.Num):
			want = api.No
		}
		own(api.Desc{Enumerable: want}, nil, asks("enumerable"), has("enumerable", v)).holds(t)
		own(api.Desc{Configurable: want}, nil, asks("configurable"), has("configurable", v)).holds(t)
		own(api.Desc{Writable: want}, nil, asks("writable"), has("writable", v)).holds(t)
	}
}

// 17.2: Value is any value, as it is.
func TestToValue(t *testing.T) {
	for _, v := range append(plain(), ref(1), ref(2), ref(5)) {
		own(api.Desc{Value: v}, nil, asks("value"), has("value", v)).holds(t)
	}
}

// 17.2: a getter or setter is undefined, or can be called; else nothing more is asked.
func TestToFunctions(t *testing.T) {
	for _, v := range append(plain(), ref(1), ref(2), ref(3), ref(4), ref(5)) {
		good := v.Kind == api.KUndefined || v == ref(2) || v == ref(3) || v == ref(4)
		for _, s := range []string{"get", "set"} {
			if !good {
				lines := upTo(asks(s, "enumerable"), "get #1 "+s+" #1")
				own(nil, typeError(), lines, has("enumerable", yes()), has(s, v)).holds(t)
				continue
			}
			want := api.Desc{Get: v}
			if s == "set" {
				want = api.Desc{Set: v}
			}
			own(want, nil, asks(s), has(s, v)).holds(t)
		}
	}
	// What is wrong with get comes ahead of what is wrong with set, and of both kinds being there.
	own(nil, typeError(), upTo(asks("get", "set", "value"), "get #1 get #1"), has("get", num(1)), has("set", num(1)), has("value", num(1))).holds(t)
	own(nil, typeError(), asks("get", "set", "writable"), has("get", ref(2)), has("set", null()), has("writable", no())).holds(t)
}

// 17.2: fields that come from prototypes are asked of the object itself, and cost a unit more for each that is asked on the way.
func TestToInheritedFields(t *testing.T) {
	var lines []string
	for _, s := range names() {
		lines = append(lines, "has #3 "+s)
		if s == "value" {
			lines = append(lines, "get #3 value #3")
			continue
		}
		lines = append(lines, "has #2 "+s)
		if s == "writable" {
			lines = append(lines, "get #3 writable #3", "get #2 writable #3")
			continue
		}
		lines = append(lines, "has #1 "+s)
		if s == "enumerable" {
			lines = append(lines, "get #3 enumerable #3", "get #2 enumerable #3", "get #1 enumerable #3")
		}
	}
	scene{"17.2: inherited", func(s stage) act {
		base := s.seer(null(), has("enumerable", yes()), has("writable", yes()), has("value", num(1)))
		heir := s.seer(ref(base), has("writable", no()), has("value", num(2)))
		return to(s.seer(ref(heir), has("value", num(3))))
	}, lines, api.Desc{Value: num(3), Writable: api.No, Enumerable: api.Yes}, nil}.holds(t)
}

// 17.2: what getters tell: they are called with the object as the receiver and without arguments; one that is missing tells undefined.
func TestToGetters(t *testing.T) {
	var lines []string
	for _, s := range names() {
		lines = append(lines, "has #1 "+s)
		switch s {
		case "configurable":
			lines = append(lines, "get #1 configurable #1")
		case "enumerable", "get", "set":
			lines = append(lines, "get #1 "+s+" #1", "call "+s+" #1")
		}
	}
	getters := func(set api.Value) func(s stage) act {
		return func(s stage) act {
			o := addSeer(s.t, s.h, s.d, null())
			f := s.ending("f", num(1), nil)
			for _, p := range []api.Prop{got("get", s.ending("get", f, nil)), got("set", s.ending("set", set, nil)), got("enumerable", s.ending("enumerable", text("x"), nil)), got("configurable", undefined())} {
				lay(s.t, s.h, o, p.Key, p.Desc)
			}
			return to(o)
		}
	}
	scene{"17.2: getters", getters(undefined()), lines, api.Desc{Get: ref(2), Set: undefined(), Enumerable: api.Yes, Configurable: api.No}, nil}.holds(t)
	scene{"17.2: getters", getters(ref(1)), lines, nil, typeError()}.holds(t)
	inherited := []string{}
	for _, s := range names() {
		inherited = append(inherited, "has #2 "+s, "has #1 "+s)
		if s == "value" {
			inherited = append(inherited, "get #2 value #2", "get #1 value #2", "call value #2")
		}
	}
	scene{"17.2: inherited getters", func(s stage) act {
		base := addSeer(s.t, s.h, s.d, null())
		o := s.seer(ref(base))
		lay(s.t, s.h, base, str("value"), got("value", s.ending("value", ref(o), nil)).Desc)
		return to(o)
	}, inherited, api.Desc{Value: ref(2)}, nil}.holds(t)
}

// 17.2: an object may have a field when it is asked whether, and not when it is asked for it: then it is undefined; and the other way round it is none.
func TestToChangedBetween(t *testing.T) {
	for _, s := range names() {
		want := map[string]api.Desc{"enumerable": {Enumerable: api.No}, "configurable": {Configurable: api.No}, "value": {Value: undefined()}, "writable": {Writable: api.No}, "get": {Get: undefined()}, "set": {Set: undefined()}}[s]
		x := own(nil, nil, nil, has(s, ref(2)))
		h, d, a := x.built(t, 100)
		d.meet = func(_ int, line string) error {
			if line == "get #1 "+s+" #1" {
				seer{}.Ordinary.Delete(h, 1, str(s))
			}
			return nil
		}
		a.is(t, h, 7, want, nil)
		a.is(t, h, 6, api.Desc{}, nil)
		x = own(nil, nil, nil)
		h, d, a = x.built(t, 100)
		after := append(names(), "none")[slices.Index(names(), s)+1]
		d.meet = func(_ int, line string) error {
			if line == "has #1 "+after {
				lay(t, h, 1, str(s), open(ref(2)))
			}
			return nil
		}
		a.is(t, h, 6, api.Desc{}, nil)
	}
}

// 17.2: programs change the object in the midst: what is asked later is as they left it, what was asked stays as it was told.
func TestToChangedInTheMidst(t *testing.T) {
	h := newHeap(t, 20, 1000, 9)
	five := giving(t, h, num(5))
	// Each of these does one thing to the receiver, and answers false: a call, three operations more or less, and what they enter.
	lays := func(k string, v api.Value) api.Value {
		return fn(t, h, api.Op{Code: api.OThis}, api.Op{Code: api.OConst, To: 1, Val: v}, api.Op{Code: api.ODefine, To: 2, A: 0, B: 1, Key: str(k), Flag: true, Desc: api.Desc{Writable: api.Yes, Configurable: api.Yes}})
	}
	drops := func(k string) api.Value {
		return fn(t, h, api.Op{Code: api.OThis}, api.Op{Code: api.ODelete, To: 2, A: 0, Key: str(k)})
	}
	const laying, dropping = 1 + 3 + 1, 1 + 2 + 1
	object := func(props ...api.Prop) int {
		o := made(t, h, null())
		for _, p := range props {
			lay(t, h, o, p.Key, p.Desc)
		}
		return o
	}
	o := object(got("enumerable", lays("value", num(7))), got("configurable", drops("writable")), has("writable", yes()))
	to(o).is(t, h, 6+1+laying+1+dropping+1, api.Desc{Value: num(7), Enumerable: api.No, Configurable: api.No}, nil)
	// What comes too late is not asked for; the next time it is.
	o = object(got("writable", lays("enumerable", yes())))
	to(o).is(t, h, 6+1+laying, api.Desc{Writable: api.No}, nil)
	to(o).is(t, h, 6+1+laying+1, api.Desc{Writable: api.No, Enumerable: api.Yes}, nil)
	// A getter of set that lays a value is too late for a TypeError, one of value that lays a getter is not.
	o = object(got("set", lays("value", num(1))))
	to(o).is(t, h, 6+1+laying, api.Desc{Set: undefined()}, nil)
	to(o).is(t, h, 6+1+laying+1, nil, typeError())
	o = object(got("value", lays("get", five)))
	to(o).is(t, h, 6+1+laying+1, nil, typeError())
	// What was done stays done, though a TypeError is thrown.
	o = object(got("value", lays("get", num(5))))
	to(o).is(t, h, 5+1+laying+1, nil, typeError())
	if s, _ := h.Shape(o); len(s.Props) != 2 {
		t.Errorf("17.2: %v", s)
	}
	// The object may get another prototype, and so all of its fields.
	base := object(has("configurable", yes()), has("value", num(3)))
	o = object(got("enumerable", fn(t, h, api.Op{Code: api.OThis}, api.Op{Code: api.OConst, To: 1, Val: ref(base)}, api.Op{Code: api.OReproto, To: 2, A: 0, B: 1}, api.Op{Code: api.OReturn, A: 0})))
	to(o).is(t, h, 1+1+1+4+1+5*2+2*2, api.Desc{Value: num(3), Enumerable: api.Yes, Configurable: api.Yes}, nil)
}

// 17.2: objects of all classes are asked by their own methods.
func TestToOfEveryClass(t *testing.T) {
	for o := 1; o <= zooLast; o++ {
		h := zoo(t, 0)
		h.Refuel(100)
		to(o).is(t, h, 6, api.Desc{}, nil)
		if ok, err := h.DefineOwnProperty(o, str("get"), open(ref(2))); !ok || err != nil {
			t.Fatal(ok, err)
		}
		to(o).is(t, h, 7, api.Desc{Get: ref(2)}, nil)
	}
}
