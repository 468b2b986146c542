package frac

import (
	"math/bits"

	"fringe/api"
)

// wide is a whole number whose absolute value is hi * 2^64 + lo: enough for the sum
// of two products of numbers of 64 bits. If it is 0, neg means nothing.
type wide struct {
	neg    bool
	hi, lo uint64
}

// size returns the absolute value; that of the least number of 64 bits is no int64.
func size(n int64) uint64 {
	if n < 0 {
		return -uint64(n)
	}
	return uint64(n)
}

// gcd returns the greatest common divisor; that of 0 and n is n.
func gcd(a, b uint64) uint64 {
	for b != 0 {
		a, b = b, a%b
	}
	return a
}

func times(x, y int64) wide {
	hi, lo := bits.Mul64(size(x), size(y))
	return wide{neg: (x < 0) != (y < 0), hi: hi, lo: lo}
}

func plus(x, y wide) wide {
	if x.neg == y.neg {
		lo, carry := bits.Add64(x.lo, y.lo, 0)
		hi, _ := bits.Add64(x.hi, y.hi, carry)
		return wide{neg: x.neg, hi: hi, lo: lo}
	}
	if bigger(y, x) {
		x, y = y, x
	}
	lo, borrow := bits.Sub64(x.lo, y.lo, 0)
	hi, _ := bits.Sub64(x.hi, y.hi, borrow)
	return wide{neg: x.neg, hi: hi, lo: lo}
}

// bigger compares absolute values.
func bigger(x, y wide) bool {
	return x.hi > y.hi || x.hi == y.hi && x.lo > y.lo
}

func order(x, y wide) int {
	y.neg = !y.neg
	d := plus(x, y)
	switch {
	case d.hi|d.lo == 0:
		return 0
	case d.neg:
		return -1
	}
	return 1
}

// rest is taken of the absolute value of x; d is not 0.
func (x wide) rest(d uint64) uint64 {
	return bits.Rem64(x.hi, x.lo, d)
}

// over asks that d divides x and is not 0.
func (x wide) over(d uint64) wide {
	lo, _ := bits.Div64(x.hi%d, x.lo, d)
	return wide{neg: x.neg, hi: x.hi / d, lo: lo}
}

// fits tells whether a fraction can have x as one of its numbers.
func (x wide) fits() bool {
	return x.hi == 0 && x.lo <= uint64(api.MaxFrac)
}

// number asks that x fits.
func (x wide) number() int64 {
	if x.neg {
		return -int64(x.lo)
	}
	return int64(x.lo)
}
