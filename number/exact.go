package number

import (
	"math"
	"math/big"
)

// How a float's bits are laid out: behind the sign and the exponent stand the bits of m below its first one, which is left away where the exponent is not the least.
const (
	fractionBits  = 52
	hiddenBit     = 1 << fractionBits
	leastExponent = -1074
	mostExponent  = 971
	exponentMask  = 1<<11 - 1
)

// split takes the size of a finite float apart: it is m times 2 to the e.
func split(x float64) (m uint64, e int) {
	bits := math.Float64bits(x)
	m = bits & (hiddenBit - 1)
	e = int(bits >> fractionBits & exponentMask)
	if e == 0 {
		return m, leastExponent
	}
	return m | hiddenBit, e - 1 + leastExponent
}

// join is m times 2 to the e, for what split answers; an m of 2^53 carries over into the exponent, from the greatest one to infinity.
func join(m uint64, e int) float64 {
	return math.Float64frombits(uint64(e-leastExponent)<<fractionBits + m)
}

// fraction is a number that is not below nought, exactly; its two parts are never changed once they are in it.
type fraction struct{ num, den *big.Int }

// exact is m times 2 to the e.
func exact(m uint64, e int) fraction {
	num, den := new(big.Int).SetUint64(m), big.NewInt(1)
	if e < 0 {
		den.Lsh(den, uint(-e))
	} else {
		num.Lsh(num, uint(e))
	}
	return fraction{num, den}
}

func powerOfTen(n int) *big.Int {
	return new(big.Int).Exp(big.NewInt(10), big.NewInt(int64(n)), nil)
}

// scaled is f times 10 to the n.
func (f fraction) scaled(n int) fraction {
	if n < 0 {
		return fraction{f.num, new(big.Int).Mul(f.den, powerOfTen(-n))}
	}
	return fraction{new(big.Int).Mul(f.num, powerOfTen(n)), f.den}
}

// belowOne tells whether f is less than 1.
func (f fraction) belowOne() bool { return f.num.Cmp(f.den) < 0 }

// decade is the n for which f, which is no nought, lies from 10^(n-1) to below 10^n.
func (f fraction) decade() int {
	// 1233/4096 is the logarithm of 2 to the base 10, closely enough that this guess is at most one off.
	n := (f.num.BitLen()-f.den.BitLen())*1233>>12 + 1
	for !f.scaled(-n).belowOne() {
		n++
	}
	for f.scaled(1 - n).belowOne() {
		n--
	}
	return n
}

// nearest is the whole number that is nearest to f, of two the greater one.
func (f fraction) nearest() *big.Int {
	sum := new(big.Int).Lsh(f.num, 1)
	sum.Add(sum, f.den)
	return sum.Quo(sum, new(big.Int).Lsh(f.den, 1))
}

// float is f, which is no nought, by half to even.
func (f fraction) float() float64 {
	e := max(f.magnitude()-fractionBits, leastExponent)
	if e > mostExponent {
		return math.Inf(1)
	}
	num, den := f.num, f.den
	if e < 0 {
		num = new(big.Int).Lsh(num, uint(-e))
	} else {
		den = new(big.Int).Lsh(den, uint(e))
	}
	whole, rest := new(big.Int).QuoRem(num, den, new(big.Int))
	m := whole.Uint64()
	half := rest.Lsh(rest, 1).Cmp(den)
	if half > 0 || half == 0 && m%2 == 1 {
		m++
	}
	return join(m, e)
}

// magnitude is the n for which f, which is no nought, lies from 2^n to below 2^(n+1).
func (f fraction) magnitude() int {
	n := f.num.BitLen() - f.den.BitLen()
	num, den := f.num, f.den
	if n < 0 {
		num = new(big.Int).Lsh(num, uint(-n))
	} else {
		den = new(big.Int).Lsh(den, uint(n))
	}
	if num.Cmp(den) < 0 {
		return n - 1
	}
	return n
}
