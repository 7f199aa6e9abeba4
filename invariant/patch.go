package invariant

import "cameo/api"

// drafts is a moment that is being changed: the object o is the draft at o - 1.
type drafts []*draft

// draft is an object that is being changed. Its properties are those of its shape until one of them is asked for; from then on they are its rows.
type draft struct {
	shape api.Shape
	rows  []row
	first map[api.Key]int // the number, from 1 on, of the first row that stands with a key; nil, as long as there are no rows
}

// row is a property, and the number of the next one with its key, 0, if there is none: any list of properties is taken, so that a key may stand many times.
type row struct {
	prop api.Prop
	next int
	gone bool
}

func draftsOf(l []api.Shape) drafts {
	m := make(drafts, 0, len(l))
	for _, s := range l {
		m = append(m, &draft{shape: s})
	}
	return m
}

// take does what a member says; false, if it cannot be done.
func (m *drafts) take(d api.Delta) bool {
	next := len(*m) + 1
	if d.What == api.DMake && d.O == next {
		*m = append(*m, &draft{shape: api.Shape{Class: d.N, Proto: d.V, Extensible: d.Yes}})
		return true
	}
	return d.O >= 1 && d.O < next && (*m)[d.O-1].take(d)
}

// take does what a member says of an object that is there.
func (x *draft) take(d api.Delta) bool {
	switch d.What {
	case api.DClass:
		x.shape.Class = d.N
	case api.DProto:
		x.shape.Proto = d.V
	case api.DExt:
		x.shape.Extensible = d.Yes
	case api.DGone:
		return x.remove(d.Key)
	case api.DPut:
		x.put(d.Key, d.Desc)
	default:
		return false
	}
	return true
}

// index makes rows of the properties. It goes from the back, so that each row meets the next one with its key.
func (x *draft) index() {
	if x.first != nil {
		return
	}
	x.rows = make([]row, len(x.shape.Props))
	x.first = make(map[api.Key]int, len(x.rows))
	for i := len(x.rows) - 1; i >= 0; i-- {
		p := x.shape.Props[i]
		x.rows[i] = row{prop: p, next: x.first[p.Key]}
		x.first[p.Key] = i + 1
	}
}

// remove takes a property out; another one with its key may then be the first. False, if there is none.
func (x *draft) remove(k api.Key) bool {
	x.index()
	n := x.first[k]
	if n == 0 {
		return false
	}
	r := &x.rows[n-1]
	r.gone = true
	x.first[k] = r.next
	return true
}

// put gives a property a descriptor, at its place, or behind all.
func (x *draft) put(k api.Key, d api.Desc) {
	x.index()
	if n := x.first[k]; n != 0 {
		x.rows[n-1].prop.Desc = d
		return
	}
	x.rows = append(x.rows, row{prop: api.Prop{Key: k, Desc: d}})
	x.first[k] = len(x.rows)
}

// shapes is what the moment has become, as it is handed out.
func (m drafts) shapes() []api.Shape {
	l := make([]api.Shape, 0, len(m))
	for _, x := range m {
		s := x.shape
		s.Proto, s.Props = newValue(s.Proto), x.props()
		l = append(l, s)
	}
	return l
}

// props is the properties as they are handed out.
func (x *draft) props() []api.Prop {
	if x.first == nil {
		return newProps(x.shape.Props)
	}
	var l []api.Prop
	for _, r := range x.rows {
		if !r.gone {
			l = append(l, r.prop)
		}
	}
	return newProps(l)
}
