package frac

import "fringe/api"

// guess is a fraction num / den (or 1 / 0) near some number n / d: rest is the absolute value of n * den - num * d,
// so that it is away from that number by rest / (den * d).
type guess struct {
	num, den, rest int64
}

func Near(a api.Frac, most int64) (api.Frac, api.Errno) {
	if e := Check(a); e != api.OK {
		return api.Frac{}, e
	}
	if most < 1 || most > api.MaxFrac {
		return api.Frac{}, api.ErrArg
	}
	if a.Den <= most {
		return a, api.OK
	}
	g, h := around(a, most)
	return nearer(g, h), api.OK
}

// around returns the fractions with denominators of at most most that are next to a on its two sides,
// where most is less than a's own denominator.
func around(a api.Frac, most int64) (guess, guess) {
	whole, rest := split(a)
	before, last := guess{1, 0, a.Den}, guess{whole, 1, rest}
	for {
		// The rests go down as in Euclid's algorithm, and none of them is 0
		// here: only a itself has the rest 0, and its denominator is too great.
		step := before.rest / last.rest
		if room := (most - before.den) / last.den; step > room {
			return last, before.toward(last, room)
		}
		before, last = last, before.toward(last, step)
	}
}

// toward returns the fraction between g and h that many steps from g to h lead to; h is on the other side.
func (g guess) toward(h guess, many int64) guess {
	return guess{g.num + many*h.num, g.den + many*h.den, g.rest - many*h.rest}
}

// nearer returns the one of two guesses that is less far away, or the lesser one if both are equally far.
func nearer(g, h guess) api.Frac {
	a, b := api.Frac{Num: g.num, Den: g.den}, api.Frac{Num: h.num, Den: h.den}
	by := order(times(g.rest, h.den), times(h.rest, g.den))
	if by == 0 {
		by = order(times(a.Num, b.Den), times(b.Num, a.Den))
	}
	if by < 0 {
		return a
	}
	return b
}
