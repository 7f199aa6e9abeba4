package invariant_test

// 10.5: what is handed in is neither changed nor kept, and what is handed out is new memory.

import (
	"slices"
	"testing"
	"unsafe"

	"cameo/api"
	"cameo/invariant"
)

// spare is a list with room behind its end, in which something stands.
func spare[T any](l []T, behind T) []T {
	out := append(slices.Clone(l), behind, behind, behind)
	return out[:len(l)]
}

// spoil writes over a list, and over the room behind its end.
func spoil[T any](l []T, x T) {
	for i := range l[:cap(l)] {
		l[:cap(l)][i] = x
	}
}

func spoilShapes(l []api.Shape) {
	for _, s := range l[:cap(l)] {
		spoil(s.Props, prop("spoilt", data(num(99), "c")))
	}
	spoil(l, api.Shape{Class: 99})
}

// roomy is a moment whose lists have room behind their ends.
func roomy(l []api.Shape) []api.Shape {
	out := spare(l, opened(prop("behind", data(num(1), ""))))
	for i := range out[:cap(out)] {
		s := &out[:cap(out)][i]
		s.Props = spare(s.Props, prop("behind", data(num(1), "")))
	}
	return out
}

// all is what lies in a moment, and in the room behind the ends of its lists.
func all(l []api.Shape) string {
	out := slices.Clone(l[:cap(l)])
	for i := range out {
		out[i].Props = out[i].Props[:cap(out[i].Props)]
	}
	return say(out)
}

// 10.5: all calls leave what they are given, and the room behind it.
func TestWhatIsHandedInStays(t *testing.T) {
	for seed := range int64(1500) {
		c := newChance(seed, false)
		before := roomy(c.moment())
		after := roomy(c.turned(before))
		l := []api.Delta{c.delta(len(before)), c.delta(len(before)), c.delta(len(before))}
		l = spare(l[:c.Intn(4)], api.Delta{O: 1, What: api.DClass, N: 99})
		x, y, z := all(before), all(after), sayDeltas(l[:cap(l)])
		invariant.Broken(before, after)
		invariant.Same(before, after)
		for _, s := range before {
			invariant.Sealed(s)
			invariant.Frozen(s)
		}
		invariant.Diff(before, after)
		invariant.Patch(before, l)
		if d, e := invariant.Diff(before, after); e == api.OK {
			invariant.Patch(before, d)
		}
		if all(before) != x || all(after) != y || sayDeltas(l[:cap(l)]) != z {
			t.Fatalf("10.5: changed:\n%sand\n%s", all(before), all(after))
		}
	}
}

// 10.5: an answer shares nothing with what was handed in, nor with another answer.
func TestAnswersAreTheCallers(t *testing.T) {
	for seed := range int64(1500) {
		c := newChance(seed, false)
		before := roomy(c.moment())
		after := roomy(append(c.turned(before), c.shape()))
		l, e := invariant.Diff(before, after)
		if e != api.OK {
			continue
		}
		again, _ := invariant.Diff(before, after)
		told, made := sayDeltas(l), say(after)
		one, _ := invariant.Patch(before, l)
		two, _ := invariant.Patch(before, l)
		x, y := all(before), all(after)
		spoilShapes(one)
		spoil(again, api.Delta{What: 99})
		if all(before) != x || all(after) != y || sayDeltas(l) != told || say(two) != made {
			t.Fatalf("10.5: shared:\n%sand\n%sand\n%s", all(before), say(two), sayDeltas(l))
		}
		spoilShapes(before)
		spoilShapes(after)
		if sayDeltas(l) != told || say(two) != made {
			t.Fatalf("10.5: kept:\n%sand\n%s", say(two), sayDeltas(l))
		}
		spoil(l, api.Delta{What: 99})
		if say(two) != made {
			t.Fatalf("10.5: kept:\n%s", say(two))
		}
	}
}

// 10.5: no two lists of an answer share any memory, their spare room neither.
func TestListsOfOneAnswer(t *testing.T) {
	d := data(num(1), "")
	before := roomy(moment(opened(letters("abc", d)...), opened(letters("abc", d)...), opened(), opened(letters("x", d)...)))
	l := []api.Delta{put(1, "d", d), gone(2, "a"), {O: 5, What: api.DMake}, put(5, "y", d), {O: 6, What: api.DMake}}
	for i := range 6 {
		m, e := invariant.Patch(before, l)
		if e != api.OK || len(m) != 6 {
			t.Fatal(e, len(m))
		}
		want := copied(m)
		spoil(m[i].Props, prop("spoilt", d))
		m[i].Props = want[i].Props
		if say(m) != say(want) {
			t.Errorf("10.5: %d:\n%s", i+1, say(m))
		}
	}
}

func fresh(s string) string { return string([]byte(s)) }

// inShapes and inDeltas are where strings lie.
func inShapes(l []api.Shape) map[*byte]string {
	m := map[*byte]string{}
	for _, s := range l {
		m[unsafe.StringData(s.Proto.Str)] = s.Proto.Str
		for _, p := range s.Props {
			for _, x := range []string{p.Key.Str, p.Desc.Value.Str, p.Desc.Get.Str, p.Desc.Set.Str} {
				m[unsafe.StringData(x)] = x
			}
		}
	}
	return m
}

func inDeltas(l []api.Delta) map[*byte]string {
	m := map[*byte]string{}
	for _, d := range l {
		for _, x := range []string{d.V.Str, d.Key.Str, d.Desc.Value.Str, d.Desc.Get.Str, d.Desc.Set.Str} {
			m[unsafe.StringData(x)] = x
		}
	}
	return m
}

// apart tells whether no string lies where one of the others does.
func apart(a, b map[*byte]string) bool {
	for at, s := range a {
		if _, ok := b[at]; ok && s != "" {
			return false
		}
	}
	return true
}

// wordy is a moment with a string wherever one may stand.
func wordy(word string) []api.Shape {
	w := func() api.Value { return text(fresh(word)) }
	l := moment(opened(api.Prop{Key: str(fresh(word)), Desc: api.Desc{Value: w(), Get: w(), Set: w()}}), opened())
	for i := range l {
		l[i].Proto = w()
	}
	return l
}

// 10.5: strings are new memory, too.
func TestStringsAreNewMemory(t *testing.T) {
	before, after := wordy("some text"), append(wordy("other text"), wordy("other text")...)
	l, e := invariant.Diff(before, after)
	if e != api.OK || len(l) != 7 {
		t.Fatal(sayDeltas(l), e)
	}
	m, e := invariant.Patch(before, l)
	if e != api.OK || say(m) != say(after) {
		t.Fatal(say(m), e)
	}
	same, _ := invariant.Patch(before, nil)
	for i, c := range [][2]map[*byte]string{
		{inDeltas(l), inShapes(before)}, {inDeltas(l), inShapes(after)},
		{inShapes(m), inShapes(before)}, {inShapes(m), inDeltas(l)}, {inShapes(m), inShapes(after)}, {inShapes(same), inShapes(before)},
	} {
		if !apart(c[0], c[1]) {
			t.Errorf("10.5: row %d: a string is handed on", i)
		}
	}
}
