package iterate_test

// The layer read a second time, by other means, as ECMA-262 has it (7.4, 14.7.5, 23.1.5), over the methods of the heap, conversions, and what makes arrays; none of the package's functions is used, nor those of records.

import (
	"math"
	"strconv"

	"cameo/api"
	"cameo/array"
	"cameo/convert"
	"cameo/heap"
	"cameo/typed"
)

func checkAll(h *heap.Heap, l ...api.Value) error {
	for i := 0; i < len(l); i++ {
		if e := h.Check(l[i]); e != 0 {
			return e
		}
	}
	return nil
}

func isObject(v api.Value) bool { return v.Kind == api.KRef }

// generator is what CreateArrayIterator's closure has: it is suspended, running, or completed.
type generator struct {
	array int
	index float64
	kind  int
	state string
}

// twinProto is what may be a prototype.
func twinProto(h *heap.Heap, v api.Value) error {
	if e := h.Check(v); e != 0 {
		return e
	}
	if !isObject(v) && v.Kind != api.KNull {
		return api.ErrValue
	}
	return nil
}

func twinNative(h *heap.Heap, proto api.Value, d does) (int, error) {
	return h.Add(api.CNative, proto, native{}, d)
}

func twinMaker(h *heap.Heap, proto api.Value, kind int, its api.Value) (int, error) {
	if err := twinProto(h, proto); err != nil {
		return 0, err
	}
	if kind < 1 || kind > 3 {
		return 0, api.ErrRange
	}
	if err := twinProto(h, its); err != nil {
		return 0, err
	}
	return twinNative(h, proto, func(this api.Value, _ []api.Value) (api.Value, error) {
		if !isObject(this) {
			return api.Value{}, typeError()
		}
		n, err := h.Add(api.CIterator, its, heap.Ordinary{}, &generator{array: this.Id, kind: kind, state: "suspended"})
		if err != nil {
			return api.Value{}, err
		}
		return ref(n), nil
	})
}

func twinNext(h *heap.Heap, proto api.Value) (int, error) {
	if err := twinProto(h, proto); err != nil {
		return 0, err
	}
	return twinNative(h, proto, func(this api.Value, _ []api.Value) (api.Value, error) {
		if !isObject(this) {
			return api.Value{}, typeError()
		}
		g, is := h.Own(this.Id).(*generator)
		if !is || g.state == "running" {
			return api.Value{}, typeError()
		}
		if g.state == "completed" {
			return twinResult(h, undefined(), true)
		}
		g.state = "running"
		v, err := g.resume(h)
		if isThrow(err) {
			g.state = "completed"
		}
		if g.state == "running" { // it yields, or all has stopped
			g.state = "suspended"
		}
		return v, err
	})
}

// resume goes on up to the next yield, or to the end (23.1.5.1).
func (g *generator) resume(h *heap.Heap) (api.Value, error) {
	length, err := g.length(h)
	if err != nil {
		return api.Value{}, err
	}
	if g.index >= length {
		g.state = "completed"
		return twinResult(h, undefined(), true)
	}
	at := g.index
	g.index++
	if g.kind == 1 {
		return twinResult(h, num(at), false)
	}
	element, err := h.Get(g.array, str(strconv.FormatFloat(at, 'f', -1, 64)), ref(g.array))
	if err != nil {
		return api.Value{}, err
	}
	if g.kind == 3 {
		n, err := array.Of(h, null(), []api.Value{num(at), element})
		if err != nil {
			return api.Value{}, err
		}
		element = ref(n)
	}
	return twinResult(h, element, false)
}

func (g *generator) length(h *heap.Heap) (float64, error) {
	if s, _ := h.Shape(g.array); s.Class == api.CTyped {
		parts, _ := typed.Parts(h, g.array)
		// All buffers of these tests have bytes, until they are detached.
		if l, _ := typed.Bytes(h, parts[0]); len(l) == 0 {
			return 0, typeError()
		}
		return float64(parts[3]), nil
	}
	v, err := h.Get(g.array, str("length"), ref(g.array))
	if err != nil {
		return 0, err
	}
	n, err := convert.Number(h, v)
	if err != nil {
		return 0, err
	}
	// ToLength (7.1.20)
	if n != n || n <= 0 {
		return 0, nil
	}
	return math.Min(math.Floor(n), api.MaxSafe), nil
}

// twinResult is CreateIterResultObject (7.4.14).
func twinResult(h *heap.Heap, v api.Value, done bool) (api.Value, error) {
	n, err := h.Make(null())
	if err != nil {
		return api.Value{}, err
	}
	heap.Ordinary{}.DefineOwnProperty(h, n, str("value"), data(v, "wec"))
	heap.Ordinary{}.DefineOwnProperty(h, n, str("done"), data(api.Value{Kind: api.KBool, Bool: done}, "wec"))
	return ref(n), nil
}

func twinResultOf(h *heap.Heap, v api.Value, done bool) (int, error) {
	if err := checkAll(h, v); err != nil {
		return 0, err
	}
	r, err := twinResult(h, v, done)
	return r.Id, err
}

// getMethod is GetMethod (7.3.11), of an object.
func getMethod(h *heap.Heap, v api.Value, k api.Key) (api.Value, error) {
	f, err := h.Get(v.Id, k, v)
	if err != nil {
		return api.Value{}, err
	}
	if f.Kind == api.KUndefined || f.Kind == api.KNull {
		return undefined(), nil
	}
	if !h.Callable(f) {
		return api.Value{}, typeError()
	}
	return f, nil
}

// getIterator is GetIterator (7.4.3).
func getIterator(h *heap.Heap, v api.Value) (api.Iterator, error) {
	if err := checkAll(h, v); err != nil {
		return api.Iterator{}, err
	}
	if !isObject(v) {
		return api.Iterator{}, typeError()
	}
	method, err := getMethod(h, v, sym(api.SymIterator))
	if err != nil {
		return api.Iterator{}, err
	}
	if method.Kind == api.KUndefined {
		return api.Iterator{}, typeError()
	}
	it, err := h.Call(method.Id, v, nil)
	if err != nil {
		return api.Iterator{}, err
	}
	if !isObject(it) {
		return api.Iterator{}, typeError()
	}
	next, err := h.Get(it.Id, str("next"), it)
	if err != nil {
		return api.Iterator{}, err
	}
	return api.Iterator{Object: it.Id, Next: next}, nil
}

func knownIterator(h *heap.Heap, it api.Iterator) error {
	if it.Object < 1 || it.Object > h.Len() {
		return api.ErrRef
	}
	return checkAll(h, it.Next)
}

// iteratorStep is IteratorStep and IteratorValue (7.4.8, 7.4.7).
func iteratorStep(h *heap.Heap, it api.Iterator) (api.Value, bool, error) {
	if err := knownIterator(h, it); err != nil {
		return api.Value{}, false, err
	}
	if !h.Callable(it.Next) {
		return api.Value{}, false, typeError()
	}
	r, err := h.Call(it.Next.Id, ref(it.Object), nil)
	if err != nil {
		return api.Value{}, false, err
	}
	if !isObject(r) {
		return api.Value{}, false, typeError()
	}
	done, err := h.Get(r.Id, str("done"), r)
	if err != nil {
		return api.Value{}, false, err
	}
	if done.Bool || done.Num != 0 && done.Num == done.Num || done.Str != "" || done.Id != 0 {
		return api.Value{}, true, nil
	}
	v, err := h.Get(r.Id, str("value"), r)
	if err != nil {
		return api.Value{}, false, err
	}
	return v, false, nil
}

// iteratorClose is IteratorClose (7.4.11), of a completion that is an error, or none.
func iteratorClose(h *heap.Heap, it api.Iterator, completion error) error {
	if err := knownIterator(h, it); err != nil {
		return err
	}
	if isStop(completion) {
		return completion
	}
	method, inner := getMethod(h, ref(it.Object), str("return"))
	result := undefined()
	if inner == nil {
		if method.Kind == api.KUndefined {
			if isThrow(completion) {
				return completion
			}
			return nil
		}
		result, inner = h.Call(method.Id, ref(it.Object), nil)
	}
	if isStop(inner) {
		return inner
	}
	if isThrow(completion) {
		return completion
	}
	if inner != nil {
		return inner
	}
	if !isObject(result) {
		return typeError()
	}
	return nil
}

// iterableToList is IteratorToList (7.4.15).
func iterableToList(h *heap.Heap, v api.Value) ([]api.Value, error) {
	it, err := getIterator(h, v)
	if err != nil {
		return nil, err
	}
	values := make([]api.Value, 0)
	for len(values) <= api.MaxArgs {
		v, done, err := iteratorStep(h, it)
		if err != nil {
			return nil, err
		}
		if done {
			return values, nil
		}
		values = append(values, v)
	}
	return nil, api.ErrLong
}

// forOf is ForIn/OfBodyEvaluation (14.7.5.7), the function being its body.
func forOf(h *heap.Heap, v, f api.Value) (int, error) {
	if err := checkAll(h, v, f); err != nil {
		return 0, err
	}
	if !h.Callable(f) {
		return 0, api.ErrKind
	}
	it, err := getIterator(h, v)
	if err != nil {
		return 0, err
	}
	for n := 0; ; n++ {
		next, done, err := iteratorStep(h, it)
		if err != nil {
			return 0, err
		}
		if done {
			return n, nil
		}
		answer, err := h.Call(f.Id, undefined(), []api.Value{next})
		if err != nil {
			return 0, iteratorClose(h, it, err)
		}
		if answer.Kind == api.KBool && !answer.Bool {
			if err := iteratorClose(h, it, nil); err != nil {
				return 0, err
			}
			return n + 1, nil
		}
	}
}

// forIn is EnumerateObjectProperties, as its note has it (14.7.5.9): a generator that visits an object, and then, delegating, its prototype.
func forIn(h *heap.Heap, v api.Value) ([]api.Key, error) {
	if err := checkAll(h, v); err != nil {
		return nil, err
	}
	visited := map[string]bool{}
	var told []api.Key
	var enumerate func(v api.Value) error
	enumerate = func(v api.Value) error {
		if !isObject(v) {
			return nil
		}
		keys, err := h.OwnPropertyKeys(v.Id)
		if err != nil {
			return err
		}
		for _, k := range keys {
			if k.Sym != 0 || visited[k.Str] {
				continue
			}
			d, there, err := h.GetOwnProperty(v.Id, k)
			if err != nil {
				return err
			}
			if !there {
				continue
			}
			visited[k.Str] = true
			if d.Enumerable == api.Yes {
				told = append(told, k)
			}
		}
		proto, err := h.GetPrototypeOf(v.Id)
		if err != nil {
			return err
		}
		return enumerate(proto)
	}
	if err := enumerate(v); err != nil {
		return nil, err
	}
	return told, nil
}

func byTwins() reading {
	return reading{
		"Maker": making(twinMaker), "Next": one(twinNext), "Result": resulting(twinResultOf),
		"Get": one(getIterator), "Step": stepping(iteratorStep), "Close": closing(iteratorClose),
		"List": one(iterableToList), "ForOf": two(forOf), "ForIn": one(forIn), "Call": calling, "Refuel": refueling,
	}
}
