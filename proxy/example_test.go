package proxy_test

// The chapter's examples.

import (
	"slices"
	"testing"

	"cameo/api"
	"cameo/array"
	"cameo/proxy"
)

func TestExample1(t *testing.T) {
	h := newHeap(t, 9, 1000, 9)
	target := ordinary(t, h, null(), is("a", data(num(1), api.No, api.No, api.No)))
	p := of(t, h, target, ordinary(t, h, null(), has("get", ref(giving(t, h, num(2))))))
	gets(p, str("a"), ref(p)).is(t, h, 1+1+3+1, nil, typeError())
	gets(p, str("b"), ref(p)).is(t, h, 1+1+3+1, num(2), nil)
}

func TestExample2(t *testing.T) {
	h := newHeap(t, 9, 1000, 9)
	twice, err := array.Of(h, null(), texts("a", "a"))
	made(t, twice, err)
	once, err := array.Of(h, null(), texts("x"))
	made(t, once, err)
	target := ordinary(t, h, null(), has("a", num(1)))
	p := of(t, h, target, ordinary(t, h, null(), has("ownKeys", ref(giving(t, h, ref(twice))))))
	keysOf(p).is(t, h, 1+1+3+3, nil, typeError())
	q := of(t, h, target, ordinary(t, h, null(), has("ownKeys", ref(giving(t, h, ref(once))))))
	keysOf(q).is(t, h, 1+1+3+2+1+1+1, keyList("x"), nil)
}

func TestExample3(t *testing.T) {
	h := newHeap(t, 9, 1000, 9)
	p := of(t, h, ordinary(t, h, null()), ordinary(t, h, null()))
	getProto(p).is(t, h, 3, null(), nil)
	if e := proxy.Revoke(h, p); e != api.OK {
		t.Error(e)
	}
	getProto(p).is(t, h, 1, nil, typeError())
	news(num(5), ref(1)).is(t, h, 0, nil, typeError())
}

func TestExample4(t *testing.T) {
	h := newHeap(t, 9, 1000, 9)
	p := of(t, h, ordinary(t, h, null(), has("a", num(7))), ordinary(t, h, null()))
	gets(p, str("a"), ref(p)).is(t, h, 3, num(7), nil)
}

// The fifth of the examples of the whole.
func TestExampleOfTheWhole(t *testing.T) {
	h := newHeap(t, 9, 1000, 9)
	p := of(t, h, ordinary(t, h, null(), is("a", shut(num(1)))), ordinary(t, h, null(), has("get", ref(giving(t, h, num(2))))))
	gets(p, str("a"), null()).is(t, h, 6, nil, typeError())
	for _, k := range []api.Key{str("b"), str(""), str("0"), sym(1), str("A")} {
		gets(p, k, null()).is(t, h, 6, num(2), nil)
	}
}

// 19.12: the names of the traps.
func TestTraps(t *testing.T) {
	want := []string{"getPrototypeOf", "setPrototypeOf", "isExtensible", "preventExtensions", "getOwnPropertyDescriptor", "defineProperty", "has", "get", "set", "deleteProperty", "ownKeys", "apply", "construct"}
	if l := proxy.Traps(); !slices.Equal(l, want) {
		t.Errorf("19.12: %q", l)
	}
}
