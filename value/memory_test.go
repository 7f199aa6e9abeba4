package value_test

// What is handed in is not changed and not kept, what is handed out is new memory (R4).

import (
	"slices"
	"testing"
	"unsafe"

	"cameo/api"
	"cameo/value"
)

func shares(a, b string) bool { return unsafe.StringData(a) == unsafe.StringData(b) }

func TestStringsAreNewMemory(t *testing.T) {
	s := string([]byte("some text"))
	if shares(value.Str(s).Str, s) {
		t.Error("Str")
	}
	if shares(value.Must(api.KStr, str(s)).Str, s) {
		t.Error("Must")
	}
	if l, _ := value.Sort([]api.Value{str(s)}); shares(l[0].Str, s) {
		t.Error("Sort")
	}
	text := "\"" + s + "\""
	if v, _ := value.Parse(text); shares(v.Str, text[1:]) {
		t.Error("Parse")
	}
}

func TestSortLeavesItsList(t *testing.T) {
	whole := []api.Value{str("b"), num(2), num(1), num(2), str("spare"), sym(1)}
	before := slices.Clone(whole)
	l := whole[:4]
	out, _ := value.Sort(l)
	if !slices.Equal(whole, before) {
		t.Errorf("what was handed in became %v", whole)
	}
	want := []api.Value{num(1), num(2), str("b")}
	again, _ := value.Sort(out)
	out = out[:cap(out)]
	clear(out)
	if !slices.Equal(whole, before) || !slices.Equal(again, want) {
		t.Errorf("an answer shares memory: %v, %v", whole, again)
	}
	clear(whole)
	if !slices.Equal(again, want) {
		t.Errorf("an answer keeps what was handed in: %v", again)
	}
}

// A row that is in order, and without doubles, is no reason to hand it back.
func TestSortOfWhatIsSorted(t *testing.T) {
	l := []api.Value{num(1), num(2)}
	out, _ := value.Sort(l)
	out[0] = none
	if l[0] != num(1) {
		t.Error("the answer is the argument")
	}
}
