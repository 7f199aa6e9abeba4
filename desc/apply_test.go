package desc_test

import (
	"maps"
	"math/rand"
	"testing"

	"cameo/api"
	"cameo/desc"
)

type application struct {
	extensible bool
	now, d     api.Desc
	want       api.Desc
	ok         bool
}

func (c application) check(t *testing.T, i int) {
	t.Helper()
	got, ok, e := desc.Apply(c.extensible, c.now, c.d)
	if !maps.Equal(fieldsOf(got), fieldsOf(c.want)) || ok != c.ok || e != api.OK {
		t.Errorf("5.3: row %d: %v, %v, %d", i, got, ok, e)
	}
}

// 5.3: the chapter's examples, and one row for each thing that may not be, beside what may.
func TestApplyRows(t *testing.T) {
	u := undefined()
	fixed, writable, free := data(num(1), api.No, api.No, api.No), data(num(1), api.Yes, api.No, api.No), data(num(1), api.Yes, api.Yes, api.Yes)
	functions := accessor(ref(1), u, api.Yes, api.No)
	loose := accessor(ref(1), ref(2), api.Yes, api.Yes)
	for i, c := range []application{
		{true, zero, api.Desc{Value: num(1)}, fixed, true},
		{false, zero, api.Desc{Value: num(1)}, zero, false}, {false, zero, zero, zero, false}, {false, zero, loose, zero, false},
		{true, zero, zero, data(u, api.No, api.No, api.No), true}, {true, zero, api.Desc{Set: ref(1), Configurable: api.Yes}, accessor(u, ref(1), api.No, api.Yes), true},

		{true, fixed, zero, fixed, true}, {false, fixed, zero, fixed, true}, {true, fixed, fixed, fixed, true}, {true, fixed, api.Desc{Value: num(1)}, fixed, true}, {true, fixed, api.Desc{Value: num(2)}, fixed, false},
		{true, fixed, api.Desc{Writable: api.No}, fixed, true}, {true, fixed, api.Desc{Writable: api.Yes}, fixed, false}, {true, fixed, api.Desc{Value: num(1), Writable: api.Yes}, fixed, false},
		{true, fixed, api.Desc{Enumerable: api.No}, fixed, true}, {true, fixed, api.Desc{Enumerable: api.Yes}, fixed, false}, {true, fixed, api.Desc{Configurable: api.No}, fixed, true}, {true, fixed, api.Desc{Configurable: api.Yes}, fixed, false},
		{true, fixed, api.Desc{Get: u}, fixed, false}, {true, fixed, api.Desc{Set: u}, fixed, false},
		{true, data(num(0), api.No, api.No, api.No), api.Desc{Value: num(minus0)}, data(num(0), api.No, api.No, api.No), false},
		{true, data(num(minus0), api.No, api.No, api.No), api.Desc{Value: num(0)}, data(num(minus0), api.No, api.No, api.No), false},
		{true, data(num(nan), api.No, api.No, api.No), api.Desc{Value: num(-nan)}, data(num(nan), api.No, api.No, api.No), true},

		{true, writable, api.Desc{Value: num(2)}, data(num(2), api.Yes, api.No, api.No), true}, {true, writable, api.Desc{Writable: api.No}, fixed, true}, {false, writable, api.Desc{Value: num(2), Writable: api.No}, data(num(2), api.No, api.No, api.No), true},
		{true, writable, api.Desc{Get: u}, writable, false}, {true, writable, api.Desc{Enumerable: api.Yes}, writable, false}, {true, writable, api.Desc{Configurable: api.Yes}, writable, false}, {true, data(num(1), api.Yes, api.Yes, api.No), api.Desc{Enumerable: api.No}, data(num(1), api.Yes, api.Yes, api.No), false},

		{true, functions, zero, functions, true}, {true, functions, api.Desc{Get: ref(1)}, functions, true}, {true, functions, api.Desc{Set: u}, functions, true}, {true, functions, functions, functions, true},
		{true, functions, api.Desc{Get: ref(2)}, functions, false}, {true, functions, api.Desc{Get: u}, functions, false}, {true, functions, api.Desc{Set: ref(1)}, functions, false}, {true, functions, api.Desc{Value: u}, functions, false}, {true, functions, api.Desc{Writable: api.No}, functions, false}, {true, functions, api.Desc{Enumerable: api.No}, functions, false}, {true, functions, api.Desc{Configurable: api.Yes}, functions, false},

		{true, free, api.Desc{Get: u}, accessor(u, u, api.Yes, api.Yes), true}, {false, free, api.Desc{Set: ref(1), Enumerable: api.No}, accessor(u, ref(1), api.No, api.Yes), true}, {true, free, api.Desc{Get: ref(1), Configurable: api.No}, accessor(ref(1), u, api.Yes, api.No), true},
		{true, free, api.Desc{Value: num(minus0)}, data(num(minus0), api.Yes, api.Yes, api.Yes), true}, {true, free, fixed, fixed, true}, {true, data(num(1), api.No, api.No, api.Yes), api.Desc{Writable: api.Yes}, data(num(1), api.Yes, api.No, api.Yes), true},
		{true, loose, api.Desc{Writable: api.Yes}, data(u, api.Yes, api.Yes, api.Yes), true}, {true, loose, api.Desc{Value: num(1)}, data(num(1), api.No, api.Yes, api.Yes), true}, {true, loose, api.Desc{Value: num(1), Enumerable: api.No, Configurable: api.No}, fixed, true},
		{true, loose, api.Desc{Set: u}, accessor(ref(1), u, api.Yes, api.Yes), true}, {true, loose, api.Desc{Enumerable: api.No}, accessor(ref(1), ref(2), api.No, api.Yes), true},
	} {
		c.check(t, i)
	}
}

// 5.3 and the first sentences of 5.6: every descriptor over every property.
func TestApplyAll(t *testing.T) {
	for _, now := range properties() {
		for _, d := range descriptors() {
			for _, extensible := range []bool{false, true} {
				want, allowed := defined(extensible, fieldsOf(now), fieldsOf(d))
				got, ok, e := desc.Apply(extensible, now, d)
				if !maps.Equal(fieldsOf(got), want) || ok != allowed || e != api.OK {
					t.Fatalf("5.3: %v over %v: %v, %v, %d", fieldsOf(d), fieldsOf(now), fieldsOf(got), ok, e)
				}
				if ok {
					follows(t, now, d, got)
				}
			}
		}
	}
}

// follows checks what is said of each answer with true.
func follows(t *testing.T, now, d, got api.Desc) {
	t.Helper()
	f := fieldsOf(got)
	if !desc.Whole(got) || !maps.Equal(fieldsOf(d).over(f), f) {
		t.Fatalf("5.6: %v over %v: %v", fieldsOf(d), fieldsOf(now), f)
	}
	for _, extensible := range []bool{false, true} {
		again, ok, e := desc.Apply(extensible, got, d)
		if !ok || e != api.OK || !maps.Equal(fieldsOf(again), f) {
			t.Fatalf("5.6: %v once more over %v: %v, %v, %d", fieldsOf(d), f, fieldsOf(again), ok, e)
		}
	}
	if ok, e := desc.Keeps(now, got); !ok || e != api.OK {
		t.Fatalf("5.6: %v became %v: %d", fieldsOf(now), f, e)
	}
}

// 5.6: whatever kept what it was, and is kept again, is kept by both steps together.
func TestKeepsIsPutTogether(t *testing.T) {
	all := properties()
	keeps := make([][]bool, len(all))
	for i, a := range all {
		for _, b := range all {
			ok, _ := desc.Keeps(a, b)
			keeps[i] = append(keeps[i], ok)
		}
	}
	for i, a := range all {
		for j := range all {
			for k := range all {
				if keeps[i][j] && keeps[j][k] && !keeps[i][k] {
					t.Fatalf("%v, %v, %v", fieldsOf(a), fieldsOf(all[j]), fieldsOf(all[k]))
				}
			}
		}
	}
}

// 5.6: any number of steps put together, by rows of definitions over one property.
func TestKeepsOverManySteps(t *testing.T) {
	r := rand.New(rand.NewSource(5))
	ds := descriptors()
	for range 3000 {
		row := []api.Desc{zero}
		for range 30 {
			now := row[len(row)-1]
			got, ok, e := desc.Apply(r.Intn(2) == 0, now, ds[r.Intn(len(ds))])
			if e != api.OK || !ok && !maps.Equal(fieldsOf(got), fieldsOf(now)) {
				t.Fatalf("%v became %v, %v, %d", fieldsOf(now), fieldsOf(got), ok, e)
			}
			row = append(row, got)
		}
		last := row[len(row)-1]
		for _, before := range row {
			if ok, e := desc.Keeps(before, last); !ok || e != api.OK {
				t.Fatalf("%v became %v", fieldsOf(before), fieldsOf(last))
			}
		}
	}
}

// 5.4 and 5.6: what Freeze answers can always be defined, fixes the property, and from then on nothing changes it.
func TestFrozenStays(t *testing.T) {
	for _, now := range properties() {
		if now == zero {
			continue
		}
		freeze, _ := desc.Freeze(now)
		frozen, ok, e := desc.Apply(false, now, freeze)
		if !ok || e != api.OK || frozen.Configurable != api.No || frozen.Writable == api.Yes || frozen.Enumerable != now.Enumerable {
			t.Fatalf("%v froze to %v, %v, %d", fieldsOf(now), fieldsOf(frozen), ok, e)
		}
		for _, d := range descriptors() {
			for _, extensible := range []bool{false, true} {
				got, _, e := desc.Apply(extensible, frozen, d)
				if same, _ := desc.Same(got, frozen); !same || e != api.OK {
					t.Fatalf("%v over %v: %v, %d", fieldsOf(d), fieldsOf(frozen), fieldsOf(got), e)
				}
			}
		}
	}
}
