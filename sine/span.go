package sine

import (
	"fringe/api"
	"fringe/frac"
)

func valid(a api.Span) bool {
	return a.Lo <= a.Hi && a.Lo >= -api.MaxSpan && a.Hi <= api.MaxSpan
}

func checkBoth(a, b api.Span) api.Errno {
	if !valid(a) || !valid(b) {
		return api.ErrBad
	}
	return api.OK
}

// result returns the enclosure with two ends, or ErrRange.
func result(lo, hi int64) (api.Span, api.Errno) {
	a := api.Span{Lo: lo, Hi: hi}
	if !valid(a) {
		return api.Span{}, api.ErrRange
	}
	return a, api.OK
}

func Add(a, b api.Span) (api.Span, api.Errno) {
	if e := checkBoth(a, b); e != api.OK {
		return api.Span{}, e
	}
	return result(a.Lo+b.Lo, a.Hi+b.Hi)
}

func Sub(a, b api.Span) (api.Span, api.Errno) {
	if e := checkBoth(a, b); e != api.OK {
		return api.Span{}, e
	}
	return result(a.Lo-b.Hi, a.Hi-b.Lo)
}

func Mul(a, b api.Span) (api.Span, api.Errno) {
	if e := checkBoth(a, b); e != api.OK {
		return api.Span{}, e
	}
	// No product overflows: the square of MaxSpan is less than 2^63.
	p, q, r, s := a.Lo*b.Lo, a.Lo*b.Hi, a.Hi*b.Lo, a.Hi*b.Hi
	return result(floor(min(p, q, r, s)), -floor(-max(p, q, r, s)))
}

// floor returns the greatest whole number that is not greater than x / 10^6.
func floor(x int64) int64 {
	if x%api.Unit < 0 {
		return x/api.Unit - 1
	}
	return x / api.Unit
}

func Of(f api.Frac) (api.Span, api.Errno) {
	const most = api.MaxSpan / api.Unit
	whole, e := frac.Floor(f)
	if e != api.OK {
		return api.Span{}, e
	}
	// A fraction beyond these has an enclosure that is out of range whatever
	// comes after its floor, and could be too great for 64 bits.
	if whole < -most || whole > most {
		return api.Span{}, api.ErrRange
	}
	parts, rest := share(uint64(f.Num-whole*f.Den), uint64(api.Unit), uint64(f.Den))
	lo := whole*api.Unit + int64(parts)
	if rest == 0 {
		return result(lo, lo)
	}
	return result(lo, lo+1)
}

func Has(a api.Span, f api.Frac) (bool, api.Errno) {
	if !valid(a) {
		return false, api.ErrBad
	}
	// The ends of a are whole numbers of millionths, so that a has f just
	// where it has the whole enclosure of f, which is in range then.
	b, e := Of(f)
	if e == api.ErrBad {
		return false, e
	}
	return e == api.OK && a.Lo <= b.Lo && b.Hi <= a.Hi, api.OK
}

func Sign(a api.Span) (int, api.Errno) {
	switch {
	case !valid(a):
		return 0, api.ErrBad
	case a.Lo > 0:
		return 1, api.OK
	case a.Hi < 0:
		return -1, api.OK
	case a == api.Span{}:
		return 0, api.OK
	}
	return 0, api.ErrOpen
}
