package desc_test

import (
	"maps"
	"strings"
	"testing"

	"cameo/api"
	"cameo/desc"
)

// 5.1 to 5.5: a descriptor that is not well formed is refused, and has no kind.
func TestBroken(t *testing.T) {
	whole := data(num(1), api.Yes, api.Yes, api.Yes)
	for i, d := range broken() {
		if desc.Check(d) != api.ErrValue || desc.Accessor(d) || desc.Data(d) || desc.Generic(d) || desc.Whole(d) {
			t.Errorf("5.1: broken %d: %v", i, d)
		}
		if got, e := desc.Complete(d); got != zero || e != api.ErrValue {
			t.Errorf("5.2: broken %d: Complete %v, %d", i, got, e)
		}
		for _, other := range []api.Desc{zero, whole, d} {
			refusesBoth(t, d, other)
			refusesBoth(t, other, d)
		}
		if got, e := desc.Freeze(d); got != zero || e != api.ErrValue {
			t.Errorf("5.4: broken %d: Freeze %v, %d", i, got, e)
		}
	}
}

func refusesBoth(t *testing.T, a, b api.Desc) {
	t.Helper()
	if ok, e := desc.Same(a, b); ok || e != api.ErrValue {
		t.Errorf("5.2: Same %v %v: %v, %d", a, b, ok, e)
	}
	if ok, e := desc.Keeps(a, b); ok || e != api.ErrValue {
		t.Errorf("5.5: Keeps %v %v: %v, %d", a, b, ok, e)
	}
	for _, extensible := range []bool{false, true} {
		if got, ok, e := desc.Apply(extensible, a, b); got != zero || ok || e != api.ErrValue {
			t.Errorf("5.3: Apply %v %v: %v, %v, %d", a, b, got, ok, e)
		}
	}
}

// 5.3 to 5.5: a descriptor that is well formed, but of no property, is refused where a property is asked for, and nowhere else.
func TestPartial(t *testing.T) {
	whole := data(num(1), api.Yes, api.Yes, api.Yes)
	for _, d := range descriptors() {
		if d == zero || fieldsOf(d).whole() {
			continue
		}
		for _, extensible := range []bool{false, true} {
			for _, over := range []api.Desc{zero, whole, d} {
				if got, ok, e := desc.Apply(extensible, d, over); got != zero || ok || e != api.ErrValue {
					t.Errorf("5.3: Apply %v %v: %v, %v, %d", d, over, got, ok, e)
				}
			}
			if _, _, e := desc.Apply(extensible, whole, d); e != api.OK {
				t.Errorf("5.3: Apply %v: %d", d, e)
			}
		}
		for _, other := range []api.Desc{zero, whole, d, data(num(1), api.No, api.No, api.No)} {
			if ok, e := desc.Keeps(d, other); ok || e != api.ErrValue {
				t.Errorf("5.5: Keeps %v %v: %v, %d", d, other, ok, e)
			}
			if ok, e := desc.Keeps(other, d); ok || e != api.ErrValue {
				t.Errorf("5.5: Keeps %v %v: %v, %d", other, d, ok, e)
			}
		}
		if got, e := desc.Freeze(d); got != zero || e != api.ErrValue {
			t.Errorf("5.4: Freeze %v: %v, %d", d, got, e)
		}
	}
	if got, e := desc.Freeze(zero); got != zero || e != api.ErrValue {
		t.Errorf("5.4: Freeze of nothing: %v, %d", got, e)
	}
}

// 5.1
func TestKinds(t *testing.T) {
	for _, d := range descriptors() {
		f := fieldsOf(d)
		if desc.Check(d) != api.OK || desc.Accessor(d) != f.ofAccessor() || desc.Data(d) != f.ofData() || desc.Generic(d) != (!f.ofAccessor() && !f.ofData()) || desc.Whole(d) != f.whole() {
			t.Errorf("%v: %d, %v %v %v %v", f, desc.Check(d), desc.Accessor(d), desc.Data(d), desc.Generic(d), desc.Whole(d))
		}
	}
	if desc.Check(zero) != api.OK || desc.Accessor(zero) || desc.Data(zero) || !desc.Generic(zero) || desc.Whole(zero) {
		t.Error("the zero descriptor is generic")
	}
}

// 5.1: every kind of value may be data, at its limits too.
func TestValuesOfAllKinds(t *testing.T) {
	for _, v := range []api.Value{undefined(), null(), boolean(false), boolean(true), num(0), num(minus0), num(nan), num(1), str(""), str("\xED\xA0\x80"), str(strings.Repeat("a", api.MaxStr)), sym(1), sym(api.MaxSyms), ref(1), ref(api.MaxObjects)} {
		if d := (api.Desc{Value: v}); desc.Check(d) != api.OK || !desc.Data(d) || desc.Whole(d) {
			t.Errorf("kind %d alone", v.Kind)
		}
		if d := data(v, api.No, api.No, api.No); desc.Check(d) != api.OK || !desc.Whole(d) {
			t.Errorf("kind %d, whole", v.Kind)
		}
	}
	for _, v := range []api.Value{undefined(), ref(1), ref(api.MaxObjects)} {
		for _, d := range []api.Desc{{Get: v}, {Set: v}} {
			if desc.Check(d) != api.OK || !desc.Accessor(d) || desc.Whole(d) {
				t.Errorf("%v alone", d)
			}
		}
		if d := accessor(v, v, api.No, api.No); desc.Check(d) != api.OK || !desc.Whole(d) {
			t.Errorf("%v", d)
		}
	}
}

// 5.2
func TestComplete(t *testing.T) {
	for _, d := range descriptors() {
		got, e := desc.Complete(d)
		if want := fieldsOf(d).filled(); e != api.OK || !maps.Equal(fieldsOf(got), want) || !desc.Whole(got) {
			t.Errorf("%v: %v, %d, not %v", fieldsOf(d), fieldsOf(got), e, want)
		}
	}
	u := undefined()
	for d, want := range map[api.Desc]api.Desc{
		zero:                          data(u, api.No, api.No, api.No),
		{Enumerable: api.Yes}:         data(u, api.No, api.Yes, api.No),
		{Configurable: api.Yes}:       data(u, api.No, api.No, api.Yes),
		{Writable: api.Yes}:           data(u, api.Yes, api.No, api.No),
		{Value: num(minus0)}:          data(num(minus0), api.No, api.No, api.No),
		{Get: ref(1)}:                 accessor(ref(1), u, api.No, api.No),
		{Set: ref(1)}:                 accessor(u, ref(1), api.No, api.No),
		{Get: u, Enumerable: api.Yes}: accessor(u, u, api.Yes, api.No),
	} {
		if got, e := desc.Complete(d); e != api.OK || !maps.Equal(fieldsOf(got), fieldsOf(want)) {
			t.Errorf("%v: %v, %d", d, got, e)
		}
	}
}

// 5.2
func TestSame(t *testing.T) {
	all := descriptors()
	for i, a := range all {
		for j, b := range all {
			if ok, e := desc.Same(a, b); ok != (i == j) || e != api.OK {
				t.Fatalf("%v %v: %v, %d", fieldsOf(a), fieldsOf(b), ok, e)
			}
		}
	}
	long := strings.Repeat("a", api.MaxStr-1)
	for _, c := range []struct {
		a, b api.Value
		want bool
	}{
		{num(0), num(minus0), false}, {num(nan), num(-nan), true}, {num(1), str("1"), false}, {str(long + "b"), str(long + "b"), true}, {str(long + "b"), str(long + "c"), false},
		{ref(1), sym(1), false}, {undefined(), null(), false}, {boolean(false), boolean(false), true}, {boolean(false), boolean(true), false},
	} {
		if ok, e := desc.Same(api.Desc{Value: c.a}, api.Desc{Value: c.b}); ok != c.want || e != api.OK {
			t.Errorf("kinds %d, %d: %v, %d", c.a.Kind, c.b.Kind, ok, e)
		}
	}
}

// 5.4
func TestFreeze(t *testing.T) {
	for _, now := range properties() {
		want := api.Desc{Configurable: api.No}
		if fieldsOf(now).ofData() {
			want.Writable = api.No
		}
		if now == zero {
			continue
		}
		if got, e := desc.Freeze(now); got != want || e != api.OK {
			t.Errorf("%v: %v, %d", fieldsOf(now), got, e)
		}
	}
}

// 5.5
func TestKeeps(t *testing.T) {
	all := properties()
	for _, before := range all {
		for _, after := range all {
			if ok, e := desc.Keeps(before, after); ok != holds(fieldsOf(before), fieldsOf(after)) || e != api.OK {
				t.Errorf("%v %v: %v, %d", fieldsOf(before), fieldsOf(after), ok, e)
			}
		}
	}
}

// 5.5: one row for each thing that never changes.
func TestKeepsRows(t *testing.T) {
	u := undefined()
	fixed, writable := data(num(0), api.No, api.No, api.No), data(num(0), api.Yes, api.No, api.No)
	functions := accessor(ref(1), u, api.Yes, api.No)
	for i, c := range []struct {
		before, after api.Desc
		want          bool
	}{
		{zero, zero, true}, {zero, fixed, true}, {zero, functions, true},
		{data(num(0), api.No, api.No, api.Yes), zero, true}, {data(num(0), api.No, api.No, api.Yes), functions, true}, {accessor(u, u, api.No, api.Yes), writable, true},
		{fixed, zero, false}, {fixed, fixed, true}, {fixed, writable, false}, {fixed, data(num(minus0), api.No, api.No, api.No), false}, {fixed, data(num(0), api.No, api.Yes, api.No), false}, {fixed, data(num(0), api.No, api.No, api.Yes), false}, {fixed, accessor(u, u, api.No, api.No), false},
		{data(num(nan), api.No, api.No, api.No), data(num(-nan), api.No, api.No, api.No), true},
		{writable, zero, false}, {writable, data(num(1), api.Yes, api.No, api.No), true}, {writable, data(num(1), api.No, api.No, api.No), true}, {writable, data(num(0), api.Yes, api.Yes, api.No), false}, {writable, data(num(0), api.Yes, api.No, api.Yes), false}, {writable, accessor(u, u, api.No, api.No), false},
		{functions, zero, false}, {functions, functions, true}, {functions, accessor(ref(2), u, api.Yes, api.No), false}, {functions, accessor(ref(1), ref(1), api.Yes, api.No), false}, {functions, accessor(ref(1), u, api.No, api.No), false}, {functions, accessor(ref(1), u, api.Yes, api.Yes), false}, {functions, data(u, api.No, api.Yes, api.No), false},
	} {
		if ok, e := desc.Keeps(c.before, c.after); ok != c.want || e != api.OK {
			t.Errorf("row %d: %v, %d", i, ok, e)
		}
	}
}
