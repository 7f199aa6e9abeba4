package key_test

// What is handed in is not changed and not kept, what is handed out is new memory (R4).

import (
	"slices"
	"testing"
	"unsafe"

	"cameo/api"
	"cameo/key"
)

func shares(a, b string) bool { return unsafe.StringData(a) == unsafe.StringData(b) }

func TestStringsAreNewMemory(t *testing.T) {
	for _, text := range []string{"some text", "12345"} {
		s := string([]byte(text))
		if k, _ := key.Of(api.Value{Kind: api.KStr, Str: s}); shares(k.Str, s) {
			t.Error("Of")
		}
		if v, _ := key.Value(str(s)); shares(v.Str, s) {
			t.Error("Value")
		}
		if l, _ := key.Order([]api.Key{str(s), str(s)}); shares(l[0].Str, s) || shares(l[1].Str, s) || shares(l[0].Str, l[1].Str) {
			t.Error("Order")
		}
		quoted := "\"" + s + "\""
		if k, _ := key.Parse(quoted); shares(k.Str, quoted[1:]) {
			t.Error("Parse")
		}
	}
}

func TestOrderLeavesItsList(t *testing.T) {
	for _, whole := range [][]api.Key{
		{str("b"), str("2"), sym(1), str("1"), str("spare"), sym(2)},
		{str("1"), str("2"), str("3"), str("4"), str("5"), str("6")},
		{str("b"), str("a"), str("d"), str("c"), str("f"), str("e")},
		{sym(2), sym(1), sym(4), sym(3), sym(6), sym(5)},
	} {
		before := slices.Clone(whole)
		out, _ := key.Order(whole[:4])
		again, _ := key.Order(whole[:4])
		want := orderKeys(before[:4])
		if !slices.Equal(whole, before) || !slices.Equal(out, want) {
			t.Errorf("%v became %v, and its answer is %v", before, whole, out)
		}
		clear(out[:cap(out)])
		if !slices.Equal(whole, before) || !slices.Equal(again, want) {
			t.Errorf("an answer shares memory: %v, %v", whole, again)
		}
		clear(whole)
		if !slices.Equal(again, want) {
			t.Errorf("an answer keeps what was handed in: %v", again)
		}
	}
}
