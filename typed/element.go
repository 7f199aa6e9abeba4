package typed

import (
	"math"
	"slices"

	"cameo/api"
	"cameo/number"
)

// The bits of what is not a number: there are many such, and these are the ones that are written.
const (
	nan32 = 0x7FC00000
	nan64 = 0x7FF8000000000000
)

// Size is how many bytes an element of a kind has.
func Size(kind int) int {
	switch kind {
	case api.TInt8, api.TUint8, api.TUint8C:
		return 1
	case api.TInt16, api.TUint16:
		return 2
	case api.TInt32, api.TUint32, api.TFloat32:
		return 4
	case api.TFloat64:
		return 8
	}
	return 0
}

// Put is a number's bytes, as an element of a kind.
func Put(kind int, x float64, little bool) ([]byte, api.Errno) {
	if e := isKind(kind); e != api.OK {
		return nil, e
	}
	return bytesOf(kind, x, little), api.OK
}

// Take is the number of bytes.
func Take(kind int, l []byte, little bool) (float64, api.Errno) {
	if isKind(kind) != api.OK || len(l) != Size(kind) {
		return 0, api.ErrRange
	}
	return numberOf(kind, l, little), api.OK
}

// bytesOf is the bytes of a number, as an element of what is a kind.
func bytesOf(kind int, x float64, little bool) []byte {
	l := make([]byte, Size(kind))
	bits := bitsOf(kind, x)
	for i := range l {
		l[i] = byte(bits >> (8 * i))
	}
	if !little {
		slices.Reverse(l)
	}
	return l
}

// bitsOf is a number as an element of a kind has it: in the last bits, as many as the kind has; what stands ahead of them is no part of it.
func bitsOf(kind int, x float64) uint64 {
	switch kind {
	case api.TInt8:
		return uint64(number.Int8(x))
	case api.TUint8:
		return uint64(number.Uint8(x))
	case api.TUint8C:
		return uint64(number.Clamp8(x))
	case api.TInt16:
		return uint64(number.Int16(x))
	case api.TUint16:
		return uint64(number.Uint16(x))
	case api.TInt32:
		return uint64(number.Int32(x))
	case api.TUint32:
		return uint64(number.Uint32(x))
	case api.TFloat32:
		return uint64(bits32(x))
	}
	return bits64(x)
}

func bits32(x float64) uint32 {
	if math.IsNaN(x) {
		return nan32
	}
	return math.Float32bits(float32(x))
}

func bits64(x float64) uint64 {
	if math.IsNaN(x) {
		return nan64
	}
	return math.Float64bits(x)
}

// numberOf is the number of as many bytes as a kind has.
func numberOf(kind int, l []byte, little bool) float64 {
	var bits uint64
	for i := range l {
		at := i
		if little {
			at = len(l) - 1 - i
		}
		bits = bits<<8 | uint64(l[at])
	}
	return meaning(kind, bits)
}

// meaning is the number that a kind has the bits for.
func meaning(kind int, bits uint64) float64 {
	switch kind {
	case api.TInt8:
		return float64(int8(bits))
	case api.TUint8, api.TUint8C:
		return float64(uint8(bits))
	case api.TInt16:
		return float64(int16(bits))
	case api.TUint16:
		return float64(uint16(bits))
	case api.TInt32:
		return float64(int32(bits))
	case api.TUint32:
		return float64(uint32(bits))
	case api.TFloat32:
		return float64(math.Float32frombits(uint32(bits)))
	}
	return math.Float64frombits(bits)
}
