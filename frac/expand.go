package frac

import "fringe/api"

const maxFold = 100

func Expand(a api.Frac) ([]int64, api.Errno) {
	if e := Check(a); e != api.OK {
		return nil, e
	}
	whole, rest := split(a)
	l := []int64{whole}
	for den := a.Den; rest != 0; {
		l = append(l, den/rest)
		den, rest = rest, den%rest
	}
	return l, api.OK
}

func Fold(l []int64) (api.Frac, api.Errno) {
	if e := checkList(l); e != api.OK {
		return api.Frac{}, e
	}
	last := len(l) - 1
	a := api.Frac{Num: l[last], Den: 1}
	for k := last - 1; k >= 0; k-- {
		// An element that is out of range needs no check of its own: it is
		// a number of 64 bits, which sum can reckon with, and what is folded
		// next has it as its denominator or is greater than it.
		var e api.Errno
		if a, e = sum(api.Frac{Num: l[k], Den: 1}, flip(a)); e != api.OK {
			return api.Frac{}, e
		}
	}
	return a, api.OK
}

func checkList(l []int64) api.Errno {
	if len(l) == 0 || len(l) > maxFold {
		return api.ErrMany
	}
	if l[0] < -api.MaxFrac || l[0] > api.MaxFrac {
		return api.ErrArg
	}
	for _, c := range l[1:] {
		if c < 1 {
			return api.ErrArg
		}
	}
	return api.OK
}
