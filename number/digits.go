package number

import (
	"math/big"
	"strconv"
	"strings"
)

// Digits is the shortest digits of a number, and where the point stands.
func Digits(x float64) (string, int) {
	if x == 0 || !finite(x) {
		return "", 0
	}
	if safe(x) {
		return wholeDigits(x)
	}
	return shortest(split(x))
}

// wholeDigits is the shortest digits of a safe whole number: its own, but for the noughts at their end, for no float lies within a half of it. Most numbers that are told are such ones, and this is quick.
func wholeDigits(x float64) (string, int) {
	s := strings.TrimPrefix(strconv.FormatInt(int64(x), 10), "-")
	return strings.TrimRight(s, "0"), len(s)
}

// shortest is the digits of m times 2 to the e, which is no nought. They are told one by one: rest is what they leave, in units of the last place of which whole make one; as soon as rest is no more than the way down to what becomes another float, the digits so far are enough, and likewise with one more in the last place and the way up.
func shortest(m uint64, e int) (string, int) {
	n := exact(m, e).decade()
	quarter := exact(1, e-2).scaled(-n)
	whole := quarter.den
	rest := times(quarter.num, 4*m)
	up := times(quarter.num, 2)
	down := times(quarter.num, quartersDown(m, e))
	// The ends of the ways are halves between two floats: they become the one whose m is even.
	ends := 0
	if m%2 == 0 {
		ends = 1
	}
	var digits []byte
	for {
		rest, up, down = times(rest, 10), times(up, 10), times(down, 10)
		digit, left := new(big.Int).QuoRem(rest, whole, new(big.Int))
		rest = left
		missing := new(big.Int).Sub(whole, rest)
		digits = append(digits, byte('0'+digit.Int64()))
		floor, ceiling := rest.Cmp(down) < ends, missing.Cmp(up) < ends
		if !floor && !ceiling {
			continue
		}
		if floor && ceiling {
			ceiling = roundsUp(rest.Cmp(missing), digit.Bit(0) == 1)
		}
		if ceiling {
			return oneMore(digits, n)
		}
		return string(digits), n
	}
}

// quartersDown is how far it is from m times 2 to the e half way down to the float below it, in quarters of the last bit; below a power of two the floats lie twice as close.
func quartersDown(m uint64, e int) uint64 {
	if m == hiddenBit && e > leastExponent {
		return 1
	}
	return 2
}

// roundsUp tells whether of two numbers that both will do the upper one is to be taken, by how far away the lower one is, held against how far the upper one is; of two that are as near, the even one.
func roundsUp(farther int, odd bool) bool { return farther > 0 || farther == 0 && odd }

// oneMore is the digits with one more in the last place. A last digit of 9 is the first one, too: behind others its ceiling would have been theirs, and enough ahead of it.
func oneMore(digits []byte, n int) (string, int) {
	last := len(digits) - 1
	if digits[last] == '9' {
		return "1", n + 1
	}
	digits[last]++
	return string(digits), n
}

func times(a *big.Int, b uint64) *big.Int {
	return new(big.Int).Mul(a, new(big.Int).SetUint64(b))
}

// rounded is the k digits that are nearest to the size of a finite float, of two the greater ones, and the exponent of the first.
func rounded(x float64, k int) (string, int) {
	if x == 0 {
		return strings.Repeat("0", k), 0
	}
	size := exact(split(x))
	e := size.decade() - 1
	s := size.scaled(k - 1 - e).nearest().String()
	if len(s) > k {
		return s[:k], e + 1
	}
	return s, e
}
