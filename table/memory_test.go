package table_test

// What is handed out is new memory, and what is gone is not kept (R4).

import (
	"runtime"
	"slices"
	"strings"
	"testing"

	"cameo/api"
	"cameo/table"
)

// 6.2: the lists are the caller's, their spare room too.
func TestListsAreTheCallers(t *testing.T) {
	x, m := table.New(), &model{}
	for i, k := range few {
		x.Put(k, mark(i))
		m.put(k, mark(i))
	}
	x.Delete(str("b"))
	m.delete(str("b"))
	props, again := x.Props(), x.Props()
	keys, keysAgain := x.Keys(), x.Keys()
	for i := range props[:cap(props)] {
		props[:cap(props)][i] = api.Prop{Key: str("changed"), Desc: mark(99)}
	}
	for i := range keys[:cap(keys)] {
		keys[:cap(keys)][i] = str("changed")
	}
	_, _ = append(props, api.Prop{}), append(keys, api.Key{})
	agree(t, x, m)
	if !slices.EqualFunc(again, m.props, sameProp) || !slices.Equal(keysAgain, m.keys()) {
		t.Error("two answers share memory")
	}
	for i := range x.Len() {
		p, _ := x.At(i)
		p.Desc.Value.Num = 1000
		p.Key = str("changed")
	}
	agree(t, x, m)
}

// kept is how many bytes are alive.
func kept() uint64 {
	var s runtime.MemStats
	runtime.GC()
	runtime.ReadMemStats(&s)
	return s.HeapAlloc
}

// What is gone leaves nothing behind for long: neither rows, nor what they held.
func TestWhatIsGoneIsNotKept(t *testing.T) {
	x := table.New()
	for n := range 100 {
		x.Put(sym(1+n), mark(n))
	}
	long := func() api.Desc {
		return api.Desc{Value: api.Value{Kind: api.KStr, Str: strings.Repeat("x", 1<<20)}}
	}
	for _, c := range []struct {
		name string
		do   func()
	}{
		{"rows", func() {
			for range 100000 {
				x.Put(str("a"), mark(1))
				x.Delete(str("a"))
			}
		}},
		{"what the gaps held", func() {
			for n := range 80 {
				x.Put(sym(1000+n), long())
			}
			for n := range 80 {
				x.Delete(sym(1000 + n))
			}
		}},
		{"what was cleared", func() {
			for n := range 80 {
				x.Put(sym(1000+n), long())
			}
			x.Clear()
		}},
		{"the room of many", func() {
			for n := range 60000 {
				x.Put(sym(1+n), mark(n))
			}
			for n := range 59990 {
				x.Delete(sym(1 + n))
			}
			x.Compact()
		}},
	} {
		ahead := kept()
		c.do()
		if behind := kept(); behind > ahead+1<<20 {
			t.Errorf("%s: %d bytes more are kept", c.name, behind-ahead)
		}
	}
	runtime.KeepAlive(x)
}
