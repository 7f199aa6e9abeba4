package number

import (
	"math"

	"cameo/api"
)

// Integer is a number without its fraction.
func Integer(x float64) float64 {
	if math.IsNaN(x) || math.Abs(x) < 1 {
		return 0
	}
	return math.Trunc(x)
}

// Int32 is a number modulo 2^32, with a sign.
func Int32(x float64) int32 { return int32(Uint32(x)) }

// Uint32 is a number modulo 2^32.
func Uint32(x float64) uint32 {
	if !finite(x) {
		return 0
	}
	n := lowBits(split(x))
	if x < 0 {
		return -n
	}
	return n
}

// lowBits is the last 32 bits of the whole part of m times 2 to the e: what is shifted out on either side is no part of them.
func lowBits(m uint64, e int) uint32 {
	if e < 0 {
		return uint32(m >> -e)
	}
	return uint32(m << e)
}

// Int16 is a number modulo 2^16, with a sign.
func Int16(x float64) int16 { return int16(Uint32(x)) }

// Uint16 is a number modulo 2^16.
func Uint16(x float64) uint16 { return uint16(Uint32(x)) }

// Int8 is a number modulo 2^8, with a sign.
func Int8(x float64) int8 { return int8(Uint32(x)) }

// Uint8 is a number modulo 2^8.
func Uint8(x float64) uint8 { return uint8(Uint32(x)) }

// Clamp8 is the nearest of the numbers 0 to 255.
func Clamp8(x float64) uint8 {
	switch {
	case math.IsNaN(x) || x < 0:
		return 0
	case x > 255:
		return 255
	}
	return uint8(math.RoundToEven(x))
}

// Length is a number as a length.
func Length(x float64) int64 { return int64(min(max(Integer(x), 0), api.MaxSafe)) }

// Index is a number as an index.
func Index(x float64) (int64, api.Errno) {
	whole := Integer(x)
	if whole < 0 || whole > api.MaxSafe {
		return 0, api.ErrRange
	}
	return int64(whole), api.OK
}
