package frac

import (
	"strconv"
	"strings"

	"fringe/api"
)

func Text(a api.Frac) (string, api.Errno) {
	if e := Check(a); e != api.OK {
		return "", e
	}
	return write(a), api.OK
}

func write(a api.Frac) string {
	s := strconv.FormatInt(a.Num, 10)
	if a.Den != 1 {
		s += "/" + strconv.FormatInt(a.Den, 10)
	}
	return s
}

func Parse(s string) (api.Frac, api.Errno) {
	num, den, found := strings.Cut(s, "/")
	if !found {
		den = "1"
	}
	n, bad := strconv.ParseInt(num, 10, 64)
	if bad != nil {
		return api.Frac{}, api.ErrForm
	}
	d, bad := strconv.ParseInt(den, 10, 64)
	if bad != nil {
		return api.Frac{}, api.ErrForm
	}
	a := api.Frac{Num: n, Den: d}
	// A plus sign, zeros in front and a denominator of 1 can be read, but no fraction has such a text.
	if Check(a) != api.OK || write(a) != s {
		return api.Frac{}, api.ErrForm
	}
	return a, api.OK
}
