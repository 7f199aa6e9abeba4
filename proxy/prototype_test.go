package proxy_test

// 19.1, 19.2 and 19.3: prototypes, and whether there may be new properties.

import (
	"testing"

	"cameo/api"
)

// protoSteps is what GetPrototypeOf, or SetPrototypeOf of v, goes through up to the trap's answer, and what follows.
func protoSteps(trap string, v string, more ...string) []string {
	return append([]string{silent, "get H " + trap + " H", "call f H T" + v}, more...)
}

// 19.1
func TestGetPrototypeOf(t *testing.T) {
	// B is the target's prototype, O another object; both are there in each scene, B as 1, O as 2.
	build := func(fixed bool, proto, answer api.Value) func(s stage) act {
		return func(s stage) act {
			s.seer("B", null())
			s.seer("O", null())
			target := s.seer("T", proto)
			if fixed {
				fix(s.h, target)
			}
			return getProto(s.trapped(target, "getPrototypeOf", answer))
		}
	}
	steps := func(more ...string) []string { return protoSteps("getPrototypeOf", "", more...) }
	l := []scene{
		{name: "extensible, its own", build: build(false, ref(1), ref(1)), steps: steps("ext T"), want: ref(1)},
		{name: "extensible, another one", build: build(false, ref(1), ref(2)), steps: steps("ext T"), want: ref(2)},
		{name: "extensible, itself", build: build(false, ref(1), ref(3)), steps: steps("ext T"), want: ref(3)},
		{name: "extensible, the proxy", build: build(false, ref(1), ref(6)), steps: steps("ext T"), want: ref(6)},
		{name: "extensible, null", build: build(false, ref(1), null()), steps: steps("ext T"), want: null()},
		{name: "extensible, null for null", build: build(false, null(), null()), steps: steps("ext T"), want: null()},
		{name: "fixed, its own", build: build(true, ref(1), ref(1)), steps: steps("ext T", "proto T"), want: ref(1)},
		{name: "fixed, another one", build: build(true, ref(1), ref(2)), steps: steps("ext T", "proto T"), wrong: typeError()},
		{name: "fixed, null", build: build(true, ref(1), null()), steps: steps("ext T", "proto T"), wrong: typeError()},
		{name: "fixed, null for null", build: build(true, null(), null()), steps: steps("ext T", "proto T"), want: null()},
		{name: "fixed, one for null", build: build(true, null(), ref(1)), steps: steps("ext T", "proto T"), wrong: typeError()},
	}
	for _, v := range plain() {
		if v != null() {
			l = append(l, scene{name: "no prototype " + tell(v), build: build(false, null(), v), steps: steps(), wrong: typeError()},
				scene{name: "fixed, no prototype " + tell(v), build: build(true, null(), v), steps: steps(), wrong: typeError()})
		}
	}
	scenes(t, l)
}

// 19.2
func TestSetPrototypeOf(t *testing.T) {
	build := func(fixed bool, proto, v, answer api.Value) func(s stage) act {
		return func(s stage) act {
			s.seer("B", null())
			s.seer("O", null())
			target := s.seer("T", proto)
			if fixed {
				fix(s.h, target)
			}
			return setProto(s.trapped(target, "setPrototypeOf", answer), v)
		}
	}
	steps := func(v string, more ...string) []string { return protoSteps("setPrototypeOf", " "+v, more...) }
	l := []scene{
		{name: "extensible, its own", build: build(false, ref(1), ref(1), yes()), steps: steps("B", "ext T"), want: true},
		{name: "extensible, another one", build: build(false, ref(1), ref(2), yes()), steps: steps("O", "ext T"), want: true},
		{name: "extensible, null", build: build(false, ref(1), null(), yes()), steps: steps("null", "ext T"), want: true},
		{name: "extensible, the target", build: build(false, ref(1), ref(3), yes()), steps: steps("T", "ext T"), want: true},
		{name: "fixed, its own", build: build(true, ref(1), ref(1), yes()), steps: steps("B", "ext T", "proto T"), want: true},
		{name: "fixed, another one", build: build(true, ref(1), ref(2), yes()), steps: steps("O", "ext T", "proto T"), wrong: typeError()},
		{name: "fixed, null", build: build(true, ref(1), null(), yes()), steps: steps("null", "ext T", "proto T"), wrong: typeError()},
		{name: "fixed, null for null", build: build(true, null(), null(), yes()), steps: steps("null", "ext T", "proto T"), want: true},
		{name: "fixed, one for null", build: build(true, null(), ref(1), yes()), steps: steps("B", "ext T", "proto T"), wrong: typeError()},
	}
	for _, v := range falsy() {
		for _, fixed := range []bool{false, true} {
			l = append(l, scene{name: "not done " + tell(v), build: build(fixed, ref(1), ref(2), v), steps: steps("O"), want: false})
		}
	}
	for _, v := range append(truthy(), ref(1)) {
		l = append(l, scene{name: "done " + tell(v), build: build(true, ref(1), ref(1), v), steps: steps("B", "ext T", "proto T"), want: true},
			scene{name: "not true " + tell(v), build: build(true, ref(1), null(), v), steps: steps("null", "ext T", "proto T"), wrong: typeError()})
	}
	scenes(t, l)
}

// 19.3
func TestExtensible(t *testing.T) {
	build := func(fixed bool, trap string, answer api.Value) func(s stage) act {
		return func(s stage) act {
			target := s.seer("T", null())
			if fixed {
				fix(s.h, target)
			}
			p := s.trapped(target, trap, answer)
			if trap == "isExtensible" {
				return isExt(p)
			}
			return prevent(p)
		}
	}
	asks := protoSteps("isExtensible", "", "ext T")
	wants := protoSteps("preventExtensions", "")
	var l []scene
	for _, v := range falsy() {
		l = append(l, scene{name: "said not to be " + tell(v), build: build(true, "isExtensible", v), steps: asks, want: false},
			scene{name: "wrongly said not to be " + tell(v), build: build(false, "isExtensible", v), steps: asks, wrong: typeError()},
			scene{name: "not prevented " + tell(v), build: build(false, "preventExtensions", v), steps: wants, want: false},
			scene{name: "said not to be prevented " + tell(v), build: build(true, "preventExtensions", v), steps: wants, want: false})
	}
	for _, v := range append(truthy(), ref(1)) {
		l = append(l, scene{name: "said to be " + tell(v), build: build(false, "isExtensible", v), steps: asks, want: true},
			scene{name: "wrongly said to be " + tell(v), build: build(true, "isExtensible", v), steps: asks, wrong: typeError()},
			scene{name: "prevented " + tell(v), build: build(true, "preventExtensions", v), steps: append(wants, "ext T"), want: true},
			scene{name: "wrongly said to be prevented " + tell(v), build: build(false, "preventExtensions", v), steps: append(wants, "ext T"), wrong: typeError()})
	}
	scenes(t, l)
}
