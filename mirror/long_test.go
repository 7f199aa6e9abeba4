package mirror_test

// Objects with more keys, and more sources, than a function has arguments: the lists have no such limit.

import (
	"slices"
	"strconv"
	"strings"
	"testing"

	"cameo/api"
	"cameo/mirror"
)

func TestManyKeys(t *testing.T) {
	const n = 3 * api.MaxArgs
	h := newHeap(t, 20000, 1<<20, 9)
	attributes := object(t, h, null(), has("value", num(1)))
	o := object(t, h, null())
	var keys, marks, all []api.Value
	for i := range n {
		lay(t, h, o, has("k"+strconv.Itoa(i), ref(attributes)), is(strconv.Itoa(n-1-i), data(ref(attributes), "e")), marked(i+1, data(ref(attributes), "wec")))
		keys, marks = append(keys, text(strconv.Itoa(i))), append(marks, symbol(i+1))
	}
	for i := range n {
		keys = append(keys, text("k"+strconv.Itoa(i)))
	}
	all = append(slices.Clone(keys), marks...)
	same := slices.Repeat([]api.Value{ref(attributes)}, 2*n)
	first := h.Len() + 1
	ask("OwnKeys", ref(o)).adds(t, h, 1, ref(first), nil, listed(all...))
	ask("Names", ref(o)).adds(t, h, 1, ref(first+1), nil, listed(keys...))
	ask("Symbols", ref(o)).adds(t, h, 1, ref(first+2), nil, listed(marks...))
	ask("Keys", ref(o)).adds(t, h, 1+2*n, ref(first+3), nil, listed(keys...))
	ask("Values", ref(o)).adds(t, h, 1+4*n, ref(first+4), nil, listed(same...))
	v, err := mirror.Entries(h, ref(o))
	for i, e := range values(t, h, v, err) {
		if l := values(t, h, e, nil); !sameValues(l, []api.Value{keys[i], ref(attributes)}) {
			t.Fatalf("22.8: %d: %v", i, l)
		}
	}
	copy := object(t, h, null())
	ask("Assign", ref(copy), ref(o)).is(t, h, 1+3*n*5, ref(copy), nil)
	ask("OwnKeys", ref(copy)).adds(t, h, 1, ref(h.Len()+1), nil, listed(all...))
	other := object(t, h, null())
	ask("DefineProperties", ref(other), ref(o)).is(t, h, 1+3*n*(2+7+1), nil, nil)
	s := shapeOf(t, h, other)
	for i, p := range s.Props {
		if word(p.Key) != all[i] || !sameDesc(p.Desc, data(num(1), "")) {
			t.Fatalf("22.5: %v; want %v", p, all[i])
		}
	}
	d, err := mirror.Descriptors(h, ref(o))
	if len(s.Props) != 3*n || err != nil || len(shapeOf(t, h, d.Id).Props) != 3*n {
		t.Errorf("22.5: %d, %v", len(s.Props), err)
	}
	again, err := mirror.Create(h, null(), d)
	if err != nil || len(shapeOf(t, h, again.Id).Props) != 3*n {
		t.Errorf("22.9: %v, %v", again, err)
	}
}

// As many sources, each of which has something of its own, and something that the next one has, too.
func TestManySources(t *testing.T) {
	const n = 2 * api.MaxArgs
	h := newHeap(t, 20000, 1<<20, 9)
	o := object(t, h, null())
	var sources []api.Value
	want := []api.Prop{has("all", num(n-1))}
	for i := range n {
		own := has("k"+strconv.Itoa(i), num(float64(i)))
		sources = append(sources, ref(object(t, h, null(), has("all", num(float64(i))), own)), null())
		want = append(want, own)
	}
	if v, err := mirror.Assign(h, ref(o), sources); v != ref(o) || err != nil {
		t.Fatalf("22.7: %v, %v", v, err)
	}
	looks(t, h, o, bare(want...))
}

// A string of more units than that.
func TestLongStrings(t *testing.T) {
	const n = 5 * api.MaxArgs
	h := newHeap(t, 10000, 1<<20, 9)
	s := text(strings.Repeat("ab", n/2))
	v, err := mirror.Values(h, s)
	l := values(t, h, v, err)
	if len(l) != n || l[0] != text("a") || l[n-1] != text("b") || h.Fuel() != 1<<20-(2+2*n) {
		t.Errorf("22.8: %d, %v", len(l), err)
	}
}
