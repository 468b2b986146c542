// Package frac is layer 1, exact fractions: see shared/doc/01-frac.md.
//
// What lies between is reckoned with 128 bits (type wide), so that only a result that is
// itself out of range is an error.
package frac

import "fringe/api"

func Check(a api.Frac) api.Errno {
	if a.Den < 1 || a.Den > api.MaxFrac || a.Num < -api.MaxFrac || a.Num > api.MaxFrac {
		return api.ErrBad
	}
	if gcd(size(a.Num), uint64(a.Den)) != 1 {
		return api.ErrBad
	}
	return api.OK
}

func checkBoth(a, b api.Frac) api.Errno {
	if e := Check(a); e != api.OK {
		return e
	}
	return Check(b)
}

func Make(num, den int64) (api.Frac, api.Errno) {
	if den == 0 {
		return api.Frac{}, api.ErrZero
	}
	n, d := size(num), size(den)
	g := gcd(n, d)
	return build(wide{neg: (num < 0) != (den < 0), lo: n / g}, wide{lo: d / g})
}

func Add(a, b api.Frac) (api.Frac, api.Errno) {
	if e := checkBoth(a, b); e != api.OK {
		return api.Frac{}, e
	}
	return sum(a, b)
}

func Sub(a, b api.Frac) (api.Frac, api.Errno) {
	if e := checkBoth(a, b); e != api.OK {
		return api.Frac{}, e
	}
	return sum(a, api.Frac{Num: -b.Num, Den: b.Den})
}

func Mul(a, b api.Frac) (api.Frac, api.Errno) {
	if e := checkBoth(a, b); e != api.OK {
		return api.Frac{}, e
	}
	return product(a, b)
}

func Div(a, b api.Frac) (api.Frac, api.Errno) {
	if e := checkBoth(a, b); e != api.OK {
		return api.Frac{}, e
	}
	if b.Num == 0 {
		return api.Frac{}, api.ErrZero
	}
	return product(a, flip(b))
}

func Cmp(a, b api.Frac) (int, api.Errno) {
	if e := checkBoth(a, b); e != api.OK {
		return 0, e
	}
	return order(times(a.Num, b.Den), times(b.Num, a.Den)), api.OK
}

func Floor(a api.Frac) (int64, api.Errno) {
	if e := Check(a); e != api.OK {
		return 0, e
	}
	whole, _ := split(a)
	return whole, api.OK
}

// split returns the floor of a valid fraction, and the numerator of what is above it.
func split(a api.Frac) (whole, rest int64) {
	whole, rest = a.Num/a.Den, a.Num%a.Den
	if rest < 0 {
		return whole - 1, rest + a.Den
	}
	return whole, rest
}

// flip returns 1 / a for a fraction that is not 0.
func flip(a api.Frac) api.Frac {
	if a.Num < 0 {
		return api.Frac{Num: -a.Den, Den: -a.Num}
	}
	return api.Frac{Num: a.Den, Den: a.Num}
}

// sum adds two fractions in lowest terms, whose numbers may have any size but the denominators are greater than 0.
func sum(a, b api.Frac) (api.Frac, api.Errno) {
	// Over the least common denominator, what the sum still has in common
	// with it divides g, so that no common divisor of two wide numbers is needed.
	g := gcd(uint64(a.Den), uint64(b.Den))
	left, right := a.Den/int64(g), b.Den/int64(g)
	num := plus(times(a.Num, right), times(b.Num, left))
	h := gcd(num.rest(g), g)
	return build(num.over(h), times(left, b.Den/int64(h)))
}

// product multiplies two valid fractions.
func product(a, b api.Frac) (api.Frac, api.Errno) {
	// Each numerator is in lowest terms with its own denominator, so that
	// only the other one's can have a divisor in common with it.
	g := int64(gcd(size(a.Num), uint64(b.Den)))
	h := int64(gcd(size(b.Num), uint64(a.Den)))
	return build(times(a.Num/g, b.Num/h), times(a.Den/h, b.Den/g))
}

// build returns the fraction of num / den, which are in lowest terms, den greater than 0.
func build(num, den wide) (api.Frac, api.Errno) {
	if !num.fits() || !den.fits() {
		return api.Frac{}, api.ErrRange
	}
	return api.Frac{Num: num.number(), Den: den.number()}, api.OK
}
