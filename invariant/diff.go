package invariant

import "cameo/api"

// doubled tells whether a shape has a key twice.
func doubled(s api.Shape) bool { return len(places(s.Props)) < len(s.Props) }

// tale is what has been told so far, and the object of which it is being told.
type tale struct {
	l []api.Delta
	o int
}

func (t *tale) tell(d api.Delta) {
	d.O = t.o
	t.l = append(t.l, d)
}

func (t *tale) gone(k api.Key) { t.tell(api.Delta{What: api.DGone, Key: newKey(k)}) }

func (t *tale) put(p api.Prop) {
	t.tell(api.Delta{What: api.DPut, Key: newKey(p.Key), Desc: newDesc(p.Desc)})
}

// made tells an object that was not there.
func (t *tale) made(s api.Shape) {
	t.tell(api.Delta{What: api.DMake, N: s.Class, V: newValue(s.Proto), Yes: s.Extensible})
	for _, p := range s.Props {
		t.put(p)
	}
}

// changed tells an object that was there.
func (t *tale) changed(was, is api.Shape) {
	if is.Class != was.Class {
		t.tell(api.Delta{What: api.DClass, N: is.Class})
	}
	if !sameValue(was.Proto, is.Proto) {
		t.tell(api.Delta{What: api.DProto, V: newValue(is.Proto)})
	}
	if is.Extensible != was.Extensible {
		t.tell(api.Delta{What: api.DExt, Yes: is.Extensible})
	}
	t.props(was.Props, is.Props)
}

// props tells the properties of an object that was there. Kept is the front of what is, as far as what was has its keys in that order: taking out the others and putting the rest behind is all that Patch can do about an order.
func (t *tale) props(was, is []api.Prop) {
	var stayed []api.Prop // as they were
	for _, p := range was {
		if n := len(stayed); n < len(is) && is[n].Key == p.Key {
			stayed = append(stayed, p)
		} else {
			t.gone(p.Key)
		}
	}
	for i, p := range stayed {
		if !sameDesc(p.Desc, is[i].Desc) {
			t.put(is[i])
		}
	}
	for _, p := range is[len(stayed):] {
		t.put(p)
	}
}
