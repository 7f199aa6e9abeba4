package typed_test

// The layer read a second time, by other means, as ECMA-262 has it (10.4.5, 25.1): numbers are cut by whole numbers of any size, and by the library's reader of texts; canonical numeric strings are found by the library; none of the package's functions is used, nor those of number and key.

import (
	"encoding/binary"
	"math"
	"math/big"
	"slices"
	"strconv"
	"strings"

	"cameo/api"
	"cameo/convert"
	"cameo/heap"
	"cameo/typed"
)

// twinWhole is a number without its fraction modulo a power of two.
func twinWhole(x float64, bits uint) uint64 {
	if x != x || math.IsInf(x, 0) {
		return 0
	}
	n, _ := new(big.Float).SetFloat64(x).Int(nil)
	return n.Mod(n, new(big.Int).Lsh(big.NewInt(1), bits)).Uint64()
}

// twinClamp is the nearest number from 0 to 255.
func twinClamp(x float64) byte {
	if !(x > 0) {
		return 0
	}
	if x >= 255 {
		return 255
	}
	low := math.Floor(x)
	rest := x - low
	if rest > 0.5 || rest == 0.5 && math.Mod(low, 2) == 1 {
		low++
	}
	return byte(low)
}

// twinNearest is the float of 32 bits that is nearest: all digits of x are written, and read again.
func twinNearest(x float64) float32 {
	y, _ := strconv.ParseFloat(strconv.FormatFloat(x, 'e', 1100, 64), 32)
	return float32(y)
}

// twinBytes is a number's bytes, the highest first.
func twinBytes(kind int, x float64) []byte {
	big := binary.BigEndian
	switch kind {
	case api.TInt8, api.TUint8:
		return []byte{byte(twinWhole(x, 8))}
	case api.TUint8C:
		return []byte{twinClamp(x)}
	case api.TInt16, api.TUint16:
		return big.AppendUint16(nil, uint16(twinWhole(x, 16)))
	case api.TInt32, api.TUint32:
		return big.AppendUint32(nil, uint32(twinWhole(x, 32)))
	case api.TFloat32:
		if x != x {
			return []byte{0x7F, 0xC0, 0, 0}
		}
		return big.AppendUint32(nil, math.Float32bits(twinNearest(x)))
	}
	if x != x {
		return []byte{0x7F, 0xF8, 0, 0, 0, 0, 0, 0}
	}
	return big.AppendUint64(nil, math.Float64bits(x))
}

// twinTake is the number of bytes, the highest first.
func twinTake(kind int, l []byte) float64 {
	big := binary.BigEndian
	switch kind {
	case api.TInt8:
		return float64(int8(l[0]))
	case api.TUint8, api.TUint8C:
		return float64(l[0])
	case api.TInt16:
		return float64(int16(big.Uint16(l)))
	case api.TUint16:
		return float64(big.Uint16(l))
	case api.TInt32:
		return float64(int32(big.Uint32(l)))
	case api.TUint32:
		return float64(big.Uint32(l))
	case api.TFloat32:
		return float64(math.Float32frombits(big.Uint32(l)))
	}
	return math.Float64frombits(big.Uint64(l))
}

// twinNumber is a number as a kind has it.
func twinNumber(kind int, x float64) float64 { return twinTake(kind, twinBytes(kind, x)) }

// twinText is a number's text, made of the library's digits.
func twinText(x float64) string {
	switch {
	case x != x:
		return "NaN"
	case x < 0:
		return "-" + twinText(-x)
	case x == 0:
		return "0"
	case math.IsInf(x, 0):
		return "Infinity"
	}
	s := strconv.FormatFloat(x, 'e', -1, 64)
	mantissa, exponent, _ := strings.Cut(s, "e")
	e, _ := strconv.Atoi(exponent)
	if e >= -6 && e <= 20 {
		return strconv.FormatFloat(x, 'f', -1, 64)
	}
	if e > 0 {
		return mantissa + "e+" + strconv.Itoa(e)
	}
	return mantissa + "e" + strconv.Itoa(e)
}

// twinNumeric is the number of a canonical numeric string.
func twinNumeric(k api.Key) (float64, bool) {
	if k.Sym != 0 {
		return 0, false
	}
	if k.Str == "-0" {
		return below0, true
	}
	x, err := strconv.ParseFloat(k.Str, 64)
	return x, err == nil && twinText(x) == k.Str
}

// twinBuffer is what a buffer has: no list at all, once it is detached.
type twinBuffer struct{ bytes *[]byte }

// twinView is what a typed array has.
type twinView struct {
	b            int
	kind, at     int
	length, size int
}

func buffered(h *heap.Heap, b int) (*twinBuffer, api.Errno) {
	if b < 1 || b > h.Len() {
		return nil, api.ErrRef
	}
	m, ok := h.Own(b).(*twinBuffer)
	if !ok {
		return nil, api.ErrKind
	}
	return m, api.OK
}

// twin is the methods of a typed array, by the second reading.
type twin struct{ heap.Ordinary }

// valid is IsValidIntegerIndex: where the element lies; -1, if it does not.
func (twin) valid(h *heap.Heap, o int, x float64) (*twinView, []byte, int) {
	w := h.Own(o).(*twinView)
	m := h.Own(w.b).(*twinBuffer)
	if m.bytes == nil || x != math.Floor(x) || x == 0 && math.Signbit(x) || x < 0 || x >= float64(w.length) {
		return w, nil, -1
	}
	return w, *m.bytes, w.at + int(x)*w.size
}

func (m twin) get(h *heap.Heap, o int, x float64) api.Value {
	w, l, i := m.valid(h, o, x)
	if i < 0 {
		return undefined()
	}
	return num(twinTake(w.kind, backwards(l[i:i+w.size])))
}

func (m twin) set(h *heap.Heap, o int, x float64, v api.Value) error {
	n, err := convert.Number(h, v)
	if err != nil {
		return err
	}
	if w, l, i := m.valid(h, o, x); i >= 0 {
		for j, b := range twinBytes(w.kind, n) {
			l[i+w.size-1-j] = b
		}
	}
	return nil
}

func (m twin) GetOwnProperty(h *heap.Heap, o int, k api.Key) (api.Desc, bool, error) {
	x, ok := twinNumeric(k)
	if !ok {
		return m.Ordinary.GetOwnProperty(h, o, k)
	}
	v := m.get(h, o, x)
	if v.Kind == api.KUndefined {
		return api.Desc{}, false, nil
	}
	return data(v, "wec"), true, nil
}

func (m twin) HasProperty(h *heap.Heap, o int, k api.Key) (bool, error) {
	x, ok := twinNumeric(k)
	if !ok {
		return m.Ordinary.HasProperty(h, o, k)
	}
	_, _, i := m.valid(h, o, x)
	return i >= 0, nil
}

func (m twin) DefineOwnProperty(h *heap.Heap, o int, k api.Key, d api.Desc) (bool, error) {
	x, ok := twinNumeric(k)
	if !ok {
		return m.Ordinary.DefineOwnProperty(h, o, k, d)
	}
	if _, _, i := m.valid(h, o, x); i < 0 {
		return false, nil
	}
	if d.Configurable == api.No || d.Enumerable == api.No || d.Get != (api.Value{}) || d.Set != (api.Value{}) || d.Writable == api.No {
		return false, nil
	}
	if d.Value.Kind != api.KNone {
		if err := m.set(h, o, x, d.Value); err != nil {
			return false, err
		}
	}
	return true, nil
}

func (m twin) Get(h *heap.Heap, o int, k api.Key, receiver api.Value) (api.Value, error) {
	if x, ok := twinNumeric(k); ok {
		return m.get(h, o, x), nil
	}
	return m.Ordinary.Get(h, o, k, receiver)
}

func (m twin) Set(h *heap.Heap, o int, k api.Key, v, receiver api.Value) (bool, error) {
	x, ok := twinNumeric(k)
	if !ok {
		return m.Ordinary.Set(h, o, k, v, receiver)
	}
	if receiver.Kind == api.KRef && receiver.Id == o {
		if err := m.set(h, o, x, v); err != nil {
			return false, err
		}
		return true, nil
	}
	if _, _, i := m.valid(h, o, x); i < 0 {
		return true, nil
	}
	// OrdinarySet of data that can be written.
	if receiver.Kind != api.KRef {
		return false, nil
	}
	d, ok, err := h.GetOwnProperty(receiver.Id, k)
	if err != nil {
		return false, err
	}
	if !ok {
		return h.DefineOwnProperty(receiver.Id, k, data(v, "wec"))
	}
	if d.Value.Kind == api.KNone || d.Writable == api.No {
		return false, nil
	}
	return h.DefineOwnProperty(receiver.Id, k, api.Desc{Value: v})
}

func (m twin) Delete(h *heap.Heap, o int, k api.Key) (bool, error) {
	x, ok := twinNumeric(k)
	if !ok {
		return m.Ordinary.Delete(h, o, k)
	}
	_, _, i := m.valid(h, o, x)
	return i < 0, nil
}

func (m twin) OwnPropertyKeys(h *heap.Heap, o int) ([]api.Key, error) {
	w := h.Own(o).(*twinView)
	var keys []api.Key
	if h.Own(w.b).(*twinBuffer).bytes != nil {
		for i := range w.length {
			keys = append(keys, at(i))
		}
	}
	s, _ := h.Shape(o)
	for _, symbols := range []bool{false, true} {
		for _, p := range s.Props {
			if p.Key.Sym != 0 == symbols {
				keys = append(keys, p.Key)
			}
		}
	}
	return keys, nil
}

// reading is the layer, by the package or by the second reading.
type reading struct {
	buffer func(h *heap.Heap, proto api.Value, n int) (int, error)
	bytes  func(h *heap.Heap, b int) ([]byte, api.Errno)
	lay    func(h *heap.Heap, b int, at int, l []byte) api.Errno
	detach func(h *heap.Heap, b int) api.Errno
	view   func(h *heap.Heap, proto api.Value, b, kind, at, length int) (int, error)
	parts  func(h *heap.Heap, o int) ([4]int, api.Errno)
	read   func(h *heap.Heap, b, at, kind int, little bool) (float64, error)
	write  func(h *heap.Heap, b, at, kind int, little bool, v api.Value) error
}

func byPackage() reading {
	return reading{typed.Buffer, typed.Bytes, typed.Lay, typed.Detach, typed.New, typed.Parts, typed.Read, typed.Write}
}

func byTwins() reading {
	return reading{twinMake, twinAll, twinLay, twinDetach, twinNew, twinParts, twinRead, twinWrite}
}

func twinProto(h *heap.Heap, proto api.Value) api.Errno {
	if e := h.Check(proto); e != api.OK {
		return e
	}
	if proto.Kind != api.KNull && proto.Kind != api.KRef {
		return api.ErrValue
	}
	return api.OK
}

func twinMake(h *heap.Heap, proto api.Value, n int) (int, error) {
	if e := twinProto(h, proto); e != api.OK {
		return 0, e
	}
	if n < 0 || n > 65536 {
		return 0, api.ErrRange
	}
	l := make([]byte, n)
	return h.Add(api.CBuffer, proto, heap.Ordinary{}, &twinBuffer{&l})
}

func twinAll(h *heap.Heap, b int) ([]byte, api.Errno) {
	m, e := buffered(h, b)
	if e != api.OK || m.bytes == nil {
		return nil, e
	}
	return slices.Clone(*m.bytes), e
}

func twinLay(h *heap.Heap, b int, at int, l []byte) api.Errno {
	m, e := buffered(h, b)
	if e != api.OK {
		return e
	}
	var have []byte
	if m.bytes != nil {
		have = *m.bytes
	}
	if at < 0 || at > len(have) || len(l) > len(have[at:]) {
		return api.ErrRange
	}
	for i, x := range l {
		have[at+i] = x
	}
	return api.OK
}

func twinDetach(h *heap.Heap, b int) api.Errno {
	m, e := buffered(h, b)
	if e == api.OK {
		m.bytes = nil
	}
	return e
}

func twinNew(h *heap.Heap, proto api.Value, b, kind, at, length int) (int, error) {
	if e := twinProto(h, proto); e != api.OK {
		return 0, e
	}
	m, e := buffered(h, b)
	if e != api.OK {
		return 0, e
	}
	if kind < 1 || kind > 9 || at < 0 || length < 0 {
		return 0, api.ErrRange
	}
	if m.bytes == nil {
		return 0, typeError()
	}
	size := big.NewInt(int64(sizeOf(kind)))
	end := new(big.Int).Mul(big.NewInt(int64(length)), size)
	end.Add(end, big.NewInt(int64(at)))
	if at%sizeOf(kind) != 0 || end.Cmp(big.NewInt(int64(len(*m.bytes)))) > 0 {
		return 0, rangeError()
	}
	return h.Add(api.CTyped, proto, twin{}, &twinView{b, kind, at, length, sizeOf(kind)})
}

func twinParts(h *heap.Heap, o int) ([4]int, api.Errno) {
	if o < 1 || o > h.Len() {
		return [4]int{}, api.ErrRef
	}
	w, ok := h.Own(o).(*twinView)
	if !ok {
		return [4]int{}, api.ErrKind
	}
	return [4]int{w.b, w.kind, w.at, w.length}, api.OK
}

// twinPlace is the bytes of an element that lies anywhere in a buffer.
func twinPlace(m *twinBuffer, at, kind int) ([]byte, error) {
	if m.bytes == nil {
		return nil, typeError()
	}
	if at > len(*m.bytes) || sizeOf(kind) > len((*m.bytes)[at:]) {
		return nil, rangeError()
	}
	return (*m.bytes)[at : at+sizeOf(kind)], nil
}

func twinRead(h *heap.Heap, b, at, kind int, little bool) (float64, error) {
	m, e := buffered(h, b)
	if e != api.OK {
		return 0, e
	}
	if kind < 1 || kind > 9 {
		return 0, api.ErrRange
	}
	if at < 0 {
		return 0, rangeError()
	}
	l, err := twinPlace(m, at, kind)
	if err != nil {
		return 0, err
	}
	if little {
		l = backwards(l)
	}
	return twinTake(kind, l), nil
}

func twinWrite(h *heap.Heap, b, at, kind int, little bool, v api.Value) error {
	m, e := buffered(h, b)
	if e != api.OK {
		return e
	}
	if kind < 1 || kind > 9 {
		return api.ErrRange
	}
	if e := h.Check(v); e != api.OK {
		return e
	}
	if at < 0 {
		return rangeError()
	}
	x, err := convert.Number(h, v)
	if err != nil {
		return err
	}
	l, err := twinPlace(m, at, kind)
	if err != nil {
		return err
	}
	bytes := twinBytes(kind, x)
	if little {
		bytes = backwards(bytes)
	}
	copy(l, bytes)
	return nil
}
