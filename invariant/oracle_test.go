package invariant_test

// What the chapter's words say, written down a second time, by other means than the package has: each list is gone through from its beginning, and what is the same is what says the same.

import (
	"slices"

	"cameo/api"
	"cameo/desc"
)

// where is the place of a shape's property; -1, if there is none.
func where(l []api.Prop, k api.Key) int {
	return slices.IndexFunc(l, func(p api.Prop) bool { return p.Key == k })
}

// brokenBy is the second reading of Broken.
func brokenBy(before, after []api.Shape) (int, int) {
	for i, was := range before {
		if len(after) < i+1 {
			return i + 1, api.RLost
		}
		for rule := api.RClass; rule <= api.RProp; rule++ {
			if breaks(rule, was, after[i]) {
				return i + 1, rule
			}
		}
	}
	return 0, 0
}

func breaks(rule int, was, is api.Shape) bool {
	switch rule {
	case api.RClass:
		return was.Class != is.Class
	case api.RExt:
		return !was.Extensible && is.Extensible
	case api.RProto:
		return !was.Extensible && sayValue(was.Proto) != sayValue(is.Proto)
	case api.RKey:
		for _, p := range is.Props {
			if !was.Extensible && where(was.Props, p.Key) < 0 {
				return true
			}
		}
	case api.RProp:
		for i, p := range was.Props {
			if where(was.Props, p.Key) == i && p.Desc.Configurable == api.No && !holds(p, is.Props) {
				return true
			}
		}
	}
	return false
}

func holds(p api.Prop, now []api.Prop) bool {
	at := where(now, p.Key)
	if at < 0 {
		return false
	}
	ok, e := desc.Keeps(p.Desc, now[at].Desc)
	return ok && e == api.OK
}

func twice(l []api.Shape) bool {
	return slices.ContainsFunc(l, func(s api.Shape) bool {
		for i, p := range s.Props {
			if where(s.Props, p.Key) < i {
				return true
			}
		}
		return false
	})
}

// diffBy is the second reading of Diff.
func diffBy(before, after []api.Shape) ([]api.Delta, api.Errno) {
	if len(after) < len(before) {
		return nil, api.ErrRange
	}
	if twice(before) || twice(after) {
		return nil, api.ErrValue
	}
	var l []api.Delta
	for i, is := range after {
		o := i + 1
		if o > len(before) {
			l = append(l, api.Delta{O: o, What: api.DMake, N: is.Class, V: is.Proto, Yes: is.Extensible})
			l = append(l, puts(o, is.Props, nil)...)
			continue
		}
		was := before[i]
		if was.Class != is.Class {
			l = append(l, api.Delta{O: o, What: api.DClass, N: is.Class})
		}
		if sayValue(was.Proto) != sayValue(is.Proto) {
			l = append(l, api.Delta{O: o, What: api.DProto, V: is.Proto})
		}
		if was.Extensible != is.Extensible {
			l = append(l, api.Delta{O: o, What: api.DExt, Yes: is.Extensible})
		}
		n := front(was.Props, is.Props)
		for _, p := range was.Props {
			if where(is.Props[:n], p.Key) < 0 {
				l = append(l, api.Delta{O: o, What: api.DGone, Key: p.Key})
			}
		}
		l = append(l, puts(o, is.Props[:n], was.Props)...)
		l = append(l, puts(o, is.Props[n:], nil)...)
	}
	return l, api.OK
}

// puts is DPut of each property that says something else than the one with its key did.
func puts(o int, l, was []api.Prop) []api.Delta {
	var out []api.Delta
	for _, p := range l {
		if at := where(was, p.Key); at < 0 || sayDesc(was[at].Desc) != sayDesc(p.Desc) {
			out = append(out, api.Delta{O: o, What: api.DPut, Key: p.Key, Desc: p.Desc})
		}
	}
	return out
}

// front is how many keys are kept: each number is tried, the greatest first.
func front(was, is []api.Prop) int {
	for n := len(is); n > 0; n-- {
		var at []int
		for _, p := range is[:n] {
			at = append(at, where(was, p.Key))
		}
		if at[0] >= 0 && slices.IsSorted(at) {
			return n
		}
	}
	return 0
}

// patchBy is the second reading of Patch.
func patchBy(before []api.Shape, l []api.Delta) ([]api.Shape, api.Errno) {
	m := copied(before)
	for _, d := range l {
		if d.What == api.DMake {
			m = append(m, api.Shape{Class: d.N, Proto: d.V, Extensible: d.Yes})
			if d.O != len(m) {
				return nil, api.ErrRange
			}
			continue
		}
		if d.O <= 0 || d.O > len(m) || d.What < api.DMake || d.What > api.DPut {
			return nil, api.ErrRange
		}
		s := &m[d.O-1]
		at := where(s.Props, d.Key)
		switch {
		case d.What == api.DClass:
			s.Class = d.N
		case d.What == api.DProto:
			s.Proto = d.V
		case d.What == api.DExt:
			s.Extensible = d.Yes
		case d.What == api.DPut && at >= 0:
			s.Props[at].Desc = d.Desc
		case d.What == api.DPut:
			s.Props = append(s.Props, api.Prop{Key: d.Key, Desc: d.Desc})
		case at >= 0:
			s.Props = slices.Delete(s.Props, at, at+1)
		default:
			return nil, api.ErrRange
		}
	}
	return m, api.OK
}
