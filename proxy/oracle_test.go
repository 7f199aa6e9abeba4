package proxy_test

// The layer read a second time, by other means, as ECMA-262 has it (10.5): what throws or stops is a panic that the method picks up, descriptors are held against each other field by field, lists are searched from end to end; proxies are objects of the tests' own. None of the package's functions is used, nor those of records and desc.

import (
	"strconv"

	"cameo/api"
	"cameo/convert"
	"cameo/heap"
)

// ends is what a method of the second reading has come to.
func ended[T any](do func() T) (answer T, err error) {
	defer func() {
		if x := recover(); x != nil {
			e, ok := x.(error)
			if !ok {
				panic(x)
			}
			var zero T
			answer, err = zero, e
		}
	}()
	return do(), nil
}

func must[T any](x T, err error) T {
	if err != nil {
		panic(err)
	}
	return x
}

func throwIf(is bool) {
	if is {
		panic(typeError())
	}
}

// second is a proxy of the second reading, at the moment of one of its methods.
type second struct {
	h               *heap.Heap
	target, handler int
}

// exotic is the methods of such proxies, exoticCaller and exoticClass those of what can be called, and constructed, too.
type exotic struct{}

type exoticCaller struct{ exotic }

type exoticClass struct{ exoticCaller }

// newSecond is a new proxy of the second reading.
func newSecond(h *heap.Heap, target, handler api.Value) (int, error) {
	for _, v := range []api.Value{target, handler} {
		if e := h.Check(v); e != api.OK {
			return 0, e
		}
	}
	if target.Kind != api.KRef || handler.Kind != api.KRef {
		return 0, typeError()
	}
	var m heap.Methods = exotic{}
	if h.Callable(target) {
		m = exoticCaller{}
	}
	if h.Constructor(target) {
		m = exoticClass{}
	}
	return h.Add(api.CProxy, null(), m, &pair{target, handler})
}

// partsOfSecond is what such a proxy has.
func partsOfSecond(h *heap.Heap, o int) (*pair, error) {
	if o < 1 || o > h.Len() {
		return nil, api.ErrRef
	}
	if p, ok := h.Own(o).(*pair); ok {
		return p, nil
	}
	return nil, api.ErrKind
}

func at(h *heap.Heap, o int) second {
	p := *h.Own(o).(*pair)
	throwIf(p.target == null())
	return second{h, p.target.Id, p.handler.Id}
}

// trap is the handler's function of a name; 0, if it has none.
func (s second) trap(name string) int {
	f := must(s.h.Get(s.handler, str(name), ref(s.handler)))
	if f.Kind == api.KUndefined || f.Kind == api.KNull {
		return 0
	}
	throwIf(!s.h.Callable(f))
	return f.Id
}

// call is what a trap answers.
func (s second) call(f int, args ...api.Value) api.Value {
	return must(s.h.Call(f, ref(s.handler), append([]api.Value{ref(s.target)}, args...)))
}

func truth(v api.Value) bool {
	switch v.Kind {
	case api.KBool:
		return v.Bool
	case api.KNum:
		return v.Num < 0 || v.Num > 0
	case api.KStr:
		return v.Str != ""
	}
	return v.Kind == api.KSym || v.Kind == api.KRef
}

func keyValue(k api.Key) api.Value {
	if k.Sym > 0 {
		return symbol(k.Sym)
	}
	return text(k.Str)
}

func (s second) own(k api.Key) (api.Desc, bool) {
	d, ok, err := s.h.GetOwnProperty(s.target, k)
	if err != nil {
		panic(err)
	}
	return d, ok
}

func (s second) extensible() bool { return must(s.h.IsExtensible(s.target)) }

func (exotic) GetPrototypeOf(h *heap.Heap, o int) (api.Value, error) {
	return ended(func() api.Value {
		s := at(h, o)
		f := s.trap("getPrototypeOf")
		if f == 0 {
			return must(h.GetPrototypeOf(s.target))
		}
		r := s.call(f)
		throwIf(r.Kind != api.KRef && r != null())
		if s.extensible() {
			return r
		}
		throwIf(must(h.GetPrototypeOf(s.target)) != r)
		return r
	})
}

func (exotic) SetPrototypeOf(h *heap.Heap, o int, v api.Value) (bool, error) {
	return ended(func() bool {
		s := at(h, o)
		f := s.trap("setPrototypeOf")
		if f == 0 {
			return must(h.SetPrototypeOf(s.target, v))
		}
		if !truth(s.call(f, v)) {
			return false
		}
		if !s.extensible() {
			throwIf(must(h.GetPrototypeOf(s.target)) != v)
		}
		return true
	})
}

func (exotic) IsExtensible(h *heap.Heap, o int) (bool, error) {
	return ended(func() bool {
		s := at(h, o)
		f := s.trap("isExtensible")
		if f == 0 {
			return must(h.IsExtensible(s.target))
		}
		r := truth(s.call(f))
		throwIf(s.extensible() != r)
		return r
	})
}

func (exotic) PreventExtensions(h *heap.Heap, o int) (bool, error) {
	return ended(func() bool {
		s := at(h, o)
		f := s.trap("preventExtensions")
		if f == 0 {
			return must(h.PreventExtensions(s.target))
		}
		r := truth(s.call(f))
		if r {
			throwIf(s.extensible())
		}
		return r
	})
}

// isAccessor and isData are IsAccessorDescriptor and IsDataDescriptor.
func isAccessor(d api.Desc) bool { return d.Get.Kind != api.KNone || d.Set.Kind != api.KNone }
func isData(d api.Desc) bool     { return d.Value.Kind != api.KNone || d.Writable != api.Absent }

// toDescriptor is ToPropertyDescriptor.
func (s second) toDescriptor(r api.Value) api.Desc {
	var d api.Desc
	read := func(name string, take func(v api.Value)) {
		if must(s.h.HasProperty(r.Id, str(name))) {
			take(must(s.h.Get(r.Id, str(name), r)))
		}
	}
	tri := func(to *api.Tri) func(v api.Value) {
		return func(v api.Value) {
			*to = api.No
			if truth(v) {
				*to = api.Yes
			}
		}
	}
	fun := func(to *api.Value) func(v api.Value) {
		return func(v api.Value) {
			throwIf(!s.h.Callable(v) && v != undefined())
			*to = v
		}
	}
	read("enumerable", tri(&d.Enumerable))
	read("configurable", tri(&d.Configurable))
	read("value", func(v api.Value) { d.Value = v })
	read("writable", tri(&d.Writable))
	read("get", fun(&d.Get))
	read("set", fun(&d.Set))
	throwIf(isAccessor(d) && isData(d))
	return d
}

// completed is CompletePropertyDescriptor.
func completed(d api.Desc) api.Desc {
	value := func(to *api.Value) {
		if to.Kind == api.KNone {
			*to = undefined()
		}
	}
	tri := func(to *api.Tri) {
		if *to == api.Absent {
			*to = api.No
		}
	}
	if isAccessor(d) {
		value(&d.Get)
		value(&d.Set)
	} else {
		value(&d.Value)
		tri(&d.Writable)
	}
	tri(&d.Enumerable)
	tri(&d.Configurable)
	return d
}

// compatible is IsCompatiblePropertyDescriptor.
func compatible(extensible bool, d, now api.Desc, there bool) bool {
	if !there {
		return extensible
	}
	if now.Configurable == api.Yes {
		return true
	}
	if d.Configurable == api.Yes || d.Enumerable != api.Absent && d.Enumerable != now.Enumerable {
		return false
	}
	if !isAccessor(d) && !isData(d) {
		return true
	}
	if isAccessor(d) != isAccessor(now) {
		return false
	}
	if isAccessor(now) {
		return (d.Get.Kind == api.KNone || d.Get == now.Get) && (d.Set.Kind == api.KNone || d.Set == now.Set)
	}
	if now.Writable == api.Yes {
		return true
	}
	return d.Writable != api.Yes && (d.Value.Kind == api.KNone || sameValue(d.Value, now.Value))
}

func (exotic) GetOwnProperty(h *heap.Heap, o int, k api.Key) (api.Desc, bool, error) {
	x, err := ended(func() own {
		s := at(h, o)
		f := s.trap("getOwnPropertyDescriptor")
		if f == 0 {
			d, ok := s.own(k)
			return own{d, ok}
		}
		r := s.call(f, keyValue(k))
		throwIf(r.Kind != api.KRef && r != undefined())
		now, there := s.own(k)
		if r == undefined() {
			if there {
				throwIf(now.Configurable != api.Yes)
				throwIf(!s.extensible())
			}
			return own{}
		}
		extensible := s.extensible()
		d := completed(s.toDescriptor(r))
		throwIf(!compatible(extensible, d, now, there))
		if d.Configurable == api.No {
			throwIf(!there)
			throwIf(now.Configurable == api.Yes)
			throwIf(d.Writable == api.No && now.Writable == api.Yes)
		}
		return own{d, true}
	})
	return x.d, x.ok, err
}

// fromDescriptor is FromPropertyDescriptor.
func (s second) fromDescriptor(d api.Desc) api.Value {
	o := must(s.h.Make(null()))
	put := func(name string, there bool, v api.Value) {
		if there {
			heap.Ordinary{}.DefineOwnProperty(s.h, o, str(name), open(v))
		}
	}
	put("value", d.Value.Kind != 0, d.Value)
	put("writable", d.Writable != 0, flag(d.Writable))
	put("get", d.Get.Kind != 0, d.Get)
	put("set", d.Set.Kind != 0, d.Set)
	put("enumerable", d.Enumerable != 0, flag(d.Enumerable))
	put("configurable", d.Configurable != 0, flag(d.Configurable))
	return ref(o)
}

func (exotic) DefineOwnProperty(h *heap.Heap, o int, k api.Key, d api.Desc) (bool, error) {
	return ended(func() bool {
		s := at(h, o)
		f := s.trap("defineProperty")
		if f == 0 {
			return must(h.DefineOwnProperty(s.target, k, d))
		}
		if !truth(s.call(f, keyValue(k), s.fromDescriptor(d))) {
			return false
		}
		now, there := s.own(k)
		extensible := s.extensible()
		fixes := d.Configurable == api.No
		if !there {
			throwIf(!extensible)
			throwIf(fixes)
			return true
		}
		throwIf(!compatible(extensible, d, now, there))
		throwIf(fixes && now.Configurable == api.Yes)
		if isData(now) && now.Configurable == api.No && now.Writable == api.Yes {
			throwIf(d.Writable == api.No)
		}
		return true
	})
}

func (exotic) HasProperty(h *heap.Heap, o int, k api.Key) (bool, error) {
	return ended(func() bool {
		s := at(h, o)
		f := s.trap("has")
		if f == 0 {
			return must(h.HasProperty(s.target, k))
		}
		r := truth(s.call(f, keyValue(k)))
		if !r {
			if now, there := s.own(k); there {
				throwIf(now.Configurable == api.No)
				throwIf(!s.extensible())
			}
		}
		return r
	})
}

func (exotic) Get(h *heap.Heap, o int, k api.Key, receiver api.Value) (api.Value, error) {
	return ended(func() api.Value {
		s := at(h, o)
		f := s.trap("get")
		if f == 0 {
			return must(h.Get(s.target, k, receiver))
		}
		r := s.call(f, keyValue(k), receiver)
		if now, there := s.own(k); there && now.Configurable == api.No {
			if isData(now) && now.Writable == api.No {
				throwIf(!sameValue(r, now.Value))
			}
			if isAccessor(now) && now.Get == undefined() {
				throwIf(r != undefined())
			}
		}
		return r
	})
}

func (exotic) Set(h *heap.Heap, o int, k api.Key, v, receiver api.Value) (bool, error) {
	return ended(func() bool {
		s := at(h, o)
		f := s.trap("set")
		if f == 0 {
			return must(h.Set(s.target, k, v, receiver))
		}
		if !truth(s.call(f, keyValue(k), v, receiver)) {
			return false
		}
		if now, there := s.own(k); there && now.Configurable == api.No {
			if isData(now) && now.Writable == api.No {
				throwIf(!sameValue(v, now.Value))
			}
			if isAccessor(now) {
				throwIf(now.Set == undefined())
			}
		}
		return true
	})
}

func (exotic) Delete(h *heap.Heap, o int, k api.Key) (bool, error) {
	return ended(func() bool {
		s := at(h, o)
		f := s.trap("deleteProperty")
		if f == 0 {
			return must(h.Delete(s.target, k))
		}
		if !truth(s.call(f, keyValue(k))) {
			return false
		}
		if now, there := s.own(k); there {
			throwIf(now.Configurable == api.No)
			throwIf(!s.extensible())
		}
		return true
	})
}

// keyList is CreateListFromArrayLike of keys.
func (s second) keyList(r api.Value) []api.Key {
	throwIf(r.Kind != api.KRef)
	n := must(convert.Length(s.h, must(s.h.Get(r.Id, str("length"), r))))
	if n > 1024 {
		panic(api.ErrLong)
	}
	l := []api.Key{}
	for i := range n {
		v := must(s.h.Get(r.Id, str(strconv.FormatInt(i, 10)), r))
		throwIf(v.Kind != api.KStr && v.Kind != api.KSym)
		k := api.Key{Str: v.Str}
		if v.Kind == api.KSym {
			k.Sym = v.Id
		}
		l = append(l, k)
	}
	return l
}

// without is a list without a key, and whether that stood in it.
func without(l []api.Key, k api.Key) ([]api.Key, bool) {
	for i, x := range l {
		if x == k {
			return append(append([]api.Key{}, l[:i]...), l[i+1:]...), true
		}
	}
	return l, false
}

func (exotic) OwnPropertyKeys(h *heap.Heap, o int) ([]api.Key, error) {
	return ended(func() []api.Key {
		s := at(h, o)
		f := s.trap("ownKeys")
		if f == 0 {
			return must(h.OwnPropertyKeys(s.target))
		}
		l := s.keyList(s.call(f))
		for i, k := range l {
			_, twice := without(l[:i], k)
			throwIf(twice)
		}
		extensible := s.extensible()
		var free, fixed []api.Key
		for _, k := range must(h.OwnPropertyKeys(s.target)) {
			if now, there := s.own(k); there && now.Configurable == api.No {
				fixed = append(fixed, k)
			} else {
				free = append(free, k)
			}
		}
		if extensible && len(fixed) == 0 {
			return l
		}
		unchecked, ok := l, false
		for _, k := range fixed {
			unchecked, ok = without(unchecked, k)
			throwIf(!ok)
		}
		if extensible {
			return l
		}
		for _, k := range free {
			unchecked, ok = without(unchecked, k)
			throwIf(!ok)
		}
		throwIf(len(unchecked) > 0)
		return l
	})
}

// toArray is CreateArrayFromList, by the array's own layer.
func (s second) toArray(l []api.Value) api.Value { return ref(must(arrayOf(s.h, l))) }

func (exoticCaller) Call(h *heap.Heap, o int, this api.Value, args []api.Value) (api.Value, error) {
	return ended(func() api.Value {
		s := at(h, o)
		f := s.trap("apply")
		if f == 0 {
			return must(h.EnterCall(s.target, this, args))
		}
		return s.call(f, this, s.toArray(args))
	})
}

func (exoticClass) Construct(h *heap.Heap, o int, args []api.Value, target int) (int, error) {
	return ended(func() int {
		s := at(h, o)
		f := s.trap("construct")
		if f == 0 {
			return must(h.EnterConstruct(s.target, args, target))
		}
		r := s.call(f, s.toArray(args), ref(target))
		throwIf(r.Kind != api.KRef)
		return r.Id
	})
}

// bySecond is an act by the second reading.
func bySecond(h *heap.Heap, x act) (string, error) {
	switch x.name {
	case "New":
		return said(newSecond(h, x.v, x.receiver))
	case "Revoke":
		p, err := partsOfSecond(h, x.o)
		if err == nil {
			*p = pair{null(), null()}
		}
		return said(struct{}{}, err)
	case "Parts":
		p, err := partsOfSecond(h, x.o)
		if err != nil {
			return said(pair{}, err)
		}
		return said(*p, nil)
	}
	return x.entered(h)
}

func byPackage(h *heap.Heap, x act) (string, error) { return x.played(h) }

// reading is how an act is played: by the package, or by the second reading.
type reading func(h *heap.Heap, x act) (string, error)
