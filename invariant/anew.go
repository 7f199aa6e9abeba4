package invariant

import (
	"strings"

	"cameo/api"
)

// What is handed out has strings of its own, wherever one may stand: a value of any kind may have one here.

func newKey(k api.Key) api.Key {
	k.Str = strings.Clone(k.Str)
	return k
}

func newValue(v api.Value) api.Value {
	v.Str = strings.Clone(v.Str)
	return v
}

func newDesc(d api.Desc) api.Desc {
	d.Value, d.Get, d.Set = newValue(d.Value), newValue(d.Get), newValue(d.Set)
	return d
}

func newProps(props []api.Prop) []api.Prop {
	l := make([]api.Prop, 0, len(props))
	for _, p := range props {
		l = append(l, api.Prop{Key: newKey(p.Key), Desc: newDesc(p.Desc)})
	}
	return l
}
