package mirror_test

// The layer read a second time, by other means, as ECMA-262 has it (20.1.2, 20.1.3.6, 28.1), over the methods of the heap, conversions, and what makes arrays and String objects; none of the package's functions is used, nor those of records.

import (
	"strconv"

	"cameo/api"
	"cameo/array"
	"cameo/convert"
	"cameo/heap"
	"cameo/proxy"
	"cameo/strobj"
)

func checkAll(h *heap.Heap, l ...api.Value) error {
	for i := 0; i < len(l); i++ {
		if e := h.Check(l[i]); e != 0 {
			return e
		}
	}
	return nil
}

func isObject(v api.Value) bool { return v.Kind == api.KRef }

// toObject is ToObject (7.1.18).
func toObject(h *heap.Heap, v api.Value) (int, error) {
	if e := h.Check(v); e != 0 {
		return 0, e
	}
	if isObject(v) {
		return v.Id, nil
	}
	if v.Kind <= api.KNull {
		return 0, typeError()
	}
	if v.Kind == api.KStr {
		return strobj.New(h, null(), v.Str)
	}
	return h.Make(null())
}

// isArray is IsArray (7.2.2), which calls itself.
func isArray(h *heap.Heap, v api.Value) (bool, error) {
	if e := h.Check(v); e != 0 {
		return false, e
	}
	if !isObject(v) {
		return false, nil
	}
	s, _ := h.Shape(v.Id)
	if s.Class != api.CProxy {
		return s.Class == api.CArray, nil
	}
	target, handler, _ := proxy.Parts(h, v.Id)
	if handler == null() {
		return false, typeError()
	}
	return isArray(h, target)
}

// toString is Object.prototype.toString (20.1.3.6).
func toString(h *heap.Heap, v api.Value) (string, error) {
	if e := h.Check(v); e != 0 {
		return "", e
	}
	if !isObject(v) {
		return "[object " + []string{"", "Undefined", "Null", "Boolean", "Number", "String", "Symbol"}[v.Kind] + "]", nil
	}
	is, err := isArray(h, v)
	if err != nil {
		return "", err
	}
	tag := "Object"
	s, _ := h.Shape(v.Id)
	if s.Class == api.CString {
		tag = "String"
	}
	if h.Callable(v) {
		tag = "Function"
	}
	if s.Class == api.CArguments {
		tag = "Arguments"
	}
	if is {
		tag = "Array"
	}
	own, err := h.Get(v.Id, api.Key{Sym: api.SymToStringTag}, v)
	if err != nil {
		return "", err
	}
	if own.Kind == api.KStr {
		tag = own.Str
	}
	if len(tag) > api.MaxStr-9 {
		return "", &api.Thrown{Kind: api.XRange}
	}
	return "[object " + tag + "]", nil
}

// fromList is CreateArrayFromList.
func fromList(h *heap.Heap, l []api.Value) (api.Value, error) {
	n, err := array.Of(h, null(), l)
	if err != nil {
		return api.Value{}, err
	}
	return ref(n), nil
}

// toList is CreateListFromArrayLike (7.3.18).
func toList(h *heap.Heap, v api.Value) ([]api.Value, error) {
	if !isObject(v) {
		return nil, typeError()
	}
	x, err := h.Get(v.Id, str("length"), v)
	if err != nil {
		return nil, err
	}
	n, err := convert.Length(h, x)
	if err != nil {
		return nil, err
	}
	if n > api.MaxArgs {
		return nil, api.ErrLong
	}
	l := []api.Value{}
	for i := int64(0); i < n; i++ {
		next, err := h.Get(v.Id, str(strconv.FormatInt(i, 10)), v)
		if err != nil {
			return nil, err
		}
		l = append(l, next)
	}
	return l, nil
}

func twinApply(h *heap.Heap, f, this, list api.Value) (api.Value, error) {
	if err := checkAll(h, f, this, list); err != nil {
		return api.Value{}, err
	}
	if !h.Callable(f) {
		return api.Value{}, typeError()
	}
	l, err := toList(h, list)
	if err != nil {
		return api.Value{}, err
	}
	return h.Call(f.Id, this, l)
}

func twinConstruct(h *heap.Heap, f, list, target api.Value) (api.Value, error) {
	if err := checkAll(h, f, list, target); err != nil {
		return api.Value{}, err
	}
	if !h.Constructor(f) {
		return api.Value{}, typeError()
	}
	if !h.Constructor(target) {
		return api.Value{}, typeError()
	}
	l, err := toList(h, list)
	if err != nil {
		return api.Value{}, err
	}
	n, err := h.Construct(f.Id, l, target.Id)
	if err != nil {
		return api.Value{}, err
	}
	return ref(n), nil
}

// fromDescriptor is FromPropertyDescriptor (6.2.6.4).
func fromDescriptor(h *heap.Heap, d api.Desc) (api.Value, error) {
	n, err := h.Make(null())
	if err != nil {
		return api.Value{}, err
	}
	for _, p := range telling(d).Props {
		heap.Ordinary{}.DefineOwnProperty(h, n, p.Key, p.Desc)
	}
	return ref(n), nil
}

// toDescriptor is ToPropertyDescriptor (6.2.6.5).
func toDescriptor(h *heap.Heap, v api.Value) (api.Desc, error) {
	var d api.Desc
	if !isObject(v) {
		return d, typeError()
	}
	flag := func(x api.Value) api.Tri {
		if x.Bool || x.Num != 0 && x.Num == x.Num || x.Str != "" || x.Id != 0 {
			return api.Yes
		}
		return api.No
	}
	for i, name := range []string{"enumerable", "configurable", "value", "writable", "get", "set"} {
		there, err := h.HasProperty(v.Id, str(name))
		if err != nil {
			return api.Desc{}, err
		}
		if !there {
			continue
		}
		x, err := h.Get(v.Id, str(name), v)
		if err != nil {
			return api.Desc{}, err
		}
		switch i {
		case 0:
			d.Enumerable = flag(x)
		case 1:
			d.Configurable = flag(x)
		case 2:
			d.Value = x
		case 3:
			d.Writable = flag(x)
		case 4:
			d.Get = x
		case 5:
			d.Set = x
		}
		if i > 3 && x.Kind != api.KUndefined && !h.Callable(x) {
			return api.Desc{}, typeError()
		}
	}
	if isAccessor(d) && (d.Value.Kind != api.KNone || d.Writable != api.Absent) {
		return api.Desc{}, typeError()
	}
	return d, nil
}

// reflected is what Reflect's functions of an object begin with: checks, and, if there is one, a key.
func reflected(h *heap.Heap, v []api.Value, keyed bool) (int, api.Key, error) {
	if err := checkAll(h, v...); err != nil {
		return 0, api.Key{}, err
	}
	if !isObject(v[0]) {
		return 0, api.Key{}, typeError()
	}
	if !keyed {
		return v[0].Id, api.Key{}, nil
	}
	k, err := convert.Key(h, v[1])
	return v[0].Id, k, err
}

// twinReflect is Reflect's functions of an object, by their names, as texts.
func twinReflect(name string) face {
	keyed := map[string]bool{"DefineProperty": true, "DeleteProperty": true, "Get": true, "Set": true, "Has": true, "Descriptor": true}[name]
	return func(h *heap.Heap, v []api.Value) (string, error) {
		o, k, err := reflected(h, v, keyed)
		if err != nil {
			return "", err
		}
		switch name {
		case "DefineProperty":
			d, err := toDescriptor(h, v[2])
			if err != nil {
				return "", err
			}
			return said(h.DefineOwnProperty(o, k, d))
		case "DeleteProperty":
			return said(h.Delete(o, k))
		case "Get":
			return said(h.Get(o, k, v[2]))
		case "Set":
			return said(h.Set(o, k, v[2], v[3]))
		case "Has":
			return said(h.HasProperty(o, k))
		case "Descriptor":
			d, there, err := h.GetOwnProperty(o, k)
			if err != nil {
				return "", err
			}
			if !there {
				return said(undefined(), nil)
			}
			return said(fromDescriptor(h, d))
		case "GetPrototypeOf":
			return said(h.GetPrototypeOf(o))
		case "SetPrototypeOf":
			if v[1] != null() && !isObject(v[1]) {
				return "", typeError()
			}
			return said(h.SetPrototypeOf(o, v[1]))
		case "IsExtensible":
			return said(h.IsExtensible(o))
		case "PreventExtensions":
			return said(h.PreventExtensions(o))
		}
		keys, err := h.OwnPropertyKeys(o)
		if err != nil {
			return "", err
		}
		var l []api.Value
		for _, k := range keys {
			l = append(l, word(k))
		}
		return said(fromList(h, l))
	}
}

// definesAll is ObjectDefineProperties (20.1.2.3.1).
func definesAll(h *heap.Heap, o int, properties api.Value) error {
	p, err := toObject(h, properties)
	if err != nil {
		return err
	}
	keys, err := h.OwnPropertyKeys(p)
	if err != nil {
		return err
	}
	var names []api.Key
	var descriptors []api.Desc
	for _, k := range keys {
		own, there, err := h.GetOwnProperty(p, k)
		if err != nil {
			return err
		}
		if !there || own.Enumerable == api.No {
			continue
		}
		v, err := h.Get(p, k, ref(p))
		if err != nil {
			return err
		}
		d, err := toDescriptor(h, v)
		if err != nil {
			return err
		}
		names, descriptors = append(names, k), append(descriptors, d)
	}
	for i := range names {
		ok, err := h.DefineOwnProperty(o, names[i], descriptors[i])
		if err != nil {
			return err
		}
		if !ok {
			return typeError()
		}
	}
	return nil
}

func twinDefineProperties(h *heap.Heap, o, properties api.Value) error {
	if err := checkAll(h, o, properties); err != nil {
		return err
	}
	if !isObject(o) {
		return typeError()
	}
	return definesAll(h, o.Id, properties)
}

func twinCreate(h *heap.Heap, proto, properties api.Value) (api.Value, error) {
	if err := checkAll(h, proto, properties); err != nil {
		return api.Value{}, err
	}
	if !isObject(proto) && proto != null() {
		return api.Value{}, typeError()
	}
	n, err := h.Make(proto)
	if err != nil {
		return api.Value{}, err
	}
	if properties == undefined() {
		return ref(n), nil
	}
	if err := definesAll(h, n, properties); err != nil {
		return api.Value{}, err
	}
	return ref(n), nil
}

func twinDescriptors(h *heap.Heap, v api.Value) (api.Value, error) {
	o, err := toObject(h, v)
	if err != nil {
		return api.Value{}, err
	}
	keys, err := h.OwnPropertyKeys(o)
	if err != nil {
		return api.Value{}, err
	}
	r, err := h.Make(null())
	for i := 0; i < len(keys) && err == nil; i++ {
		d, there, wrong := h.GetOwnProperty(o, keys[i])
		if err = wrong; err != nil || !there {
			continue
		}
		var x api.Value
		if x, err = fromDescriptor(h, d); err != nil {
			continue
		}
		ok := false
		if ok, err = h.DefineOwnProperty(r, keys[i], data(x, "wec")); err == nil && !ok {
			err = typeError()
		}
	}
	if err != nil {
		return api.Value{}, err
	}
	return ref(r), nil
}

func twinAssign(h *heap.Heap, target api.Value, sources []api.Value) (api.Value, error) {
	if err := checkAll(h, target); err != nil {
		return api.Value{}, err
	}
	if err := checkAll(h, sources...); err != nil {
		return api.Value{}, err
	}
	to, err := toObject(h, target)
	if err != nil {
		return api.Value{}, err
	}
	for _, next := range sources {
		if next.Kind <= api.KNull {
			continue
		}
		from, err := toObject(h, next)
		if err != nil {
			return api.Value{}, err
		}
		if err := assignsFrom(h, to, from); err != nil {
			return api.Value{}, err
		}
	}
	return ref(to), nil
}

func assignsFrom(h *heap.Heap, to, from int) error {
	keys, err := h.OwnPropertyKeys(from)
	if err != nil {
		return err
	}
	for _, k := range keys {
		d, there, err := h.GetOwnProperty(from, k)
		if err != nil {
			return err
		}
		if there && d.Enumerable == api.Yes {
			v, err := h.Get(from, k, ref(from))
			if err != nil {
				return err
			}
			ok, err := h.Set(to, k, v, ref(to))
			if err != nil {
				return err
			}
			if !ok {
				return typeError()
			}
		}
	}
	return nil
}

// enumerable is EnumerableOwnProperties (7.3.23), of keys (1), values (2) or both (3), and as an array.
func enumerable(kind int) func(h *heap.Heap, v api.Value) (api.Value, error) {
	return func(h *heap.Heap, v api.Value) (api.Value, error) {
		o, err := toObject(h, v)
		if err != nil {
			return api.Value{}, err
		}
		keys, err := h.OwnPropertyKeys(o)
		if err != nil {
			return api.Value{}, err
		}
		var results []api.Value
		for _, k := range keys {
			if k.Sym > 0 {
				continue
			}
			d, there, err := h.GetOwnProperty(o, k)
			if err != nil {
				return api.Value{}, err
			}
			if !there || d.Enumerable != api.Yes {
				continue
			}
			x := text(k.Str)
			if kind > 1 {
				if x, err = h.Get(o, k, ref(o)); err != nil {
					return api.Value{}, err
				}
			}
			if kind == 3 {
				if x, err = fromList(h, []api.Value{text(k.Str), x}); err != nil {
					return api.Value{}, err
				}
			}
			results = append(results, x)
		}
		return fromList(h, results)
	}
}

// ownKeys is GetOwnPropertyKeys (20.1.2.11.1), of strings or of symbols.
func ownKeys(symbols bool) func(h *heap.Heap, v api.Value) (api.Value, error) {
	return func(h *heap.Heap, v api.Value) (api.Value, error) {
		o, err := toObject(h, v)
		if err != nil {
			return api.Value{}, err
		}
		keys, err := h.OwnPropertyKeys(o)
		if err != nil {
			return api.Value{}, err
		}
		var l []api.Value
		for _, k := range keys {
			if w := word(k); (w.Kind == api.KSym) == symbols {
				l = append(l, w)
			}
		}
		return fromList(h, l)
	}
}

func twinHasOwn(h *heap.Heap, v, name api.Value) (bool, error) {
	if err := checkAll(h, v, name); err != nil {
		return false, err
	}
	o, err := toObject(h, v)
	if err != nil {
		return false, err
	}
	k, err := convert.Key(h, name)
	if err != nil {
		return false, err
	}
	_, there, err := h.GetOwnProperty(o, k)
	if err != nil {
		return false, err
	}
	return there, nil
}

func byTwins() reading {
	r := reading{
		"Object": one(toObject), "IsArray": one(isArray), "Tag": one(toString), "Apply": three(twinApply), "Construct": three(twinConstruct),
		"Create": two(twinCreate), "DefineProperties": none(twinDefineProperties), "Descriptors": one(twinDescriptors), "Assign": some(twinAssign),
		"Keys": one(enumerable(1)), "Values": one(enumerable(2)), "Entries": one(enumerable(3)), "Names": one(ownKeys(false)), "Symbols": one(ownKeys(true)), "HasOwn": two(twinHasOwn),
	}
	for _, name := range []string{"DefineProperty", "DeleteProperty", "Get", "Set", "Has", "Descriptor", "GetPrototypeOf", "SetPrototypeOf", "IsExtensible", "PreventExtensions", "OwnKeys"} {
		r[name] = twinReflect(name)
	}
	return r
}
