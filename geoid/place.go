package geoid

import (
	"sort"

	"fringe/api"
	"fringe/frac"
	"fringe/vec"
)

// axisZ is the axis about which a globe is round.
const axisZ = 2

func At(g api.Globe, s, t api.Frac) (api.Vec, api.Errno) {
	if e := Check(g); e != api.OK {
		return api.Vec{}, e
	}
	if !isParam(s) || !isParam(t) || s.Num < -s.Den || s.Num > s.Den {
		return api.Vec{}, api.ErrBad
	}
	// The numbers of parameters are too small for an error.
	turn, _ := vec.Turn(axisZ, t)
	return vec.Apply(turn, meridian(g, s))
}

func isParam(u api.Frac) bool {
	return frac.Check(u) == api.OK && u.Den <= api.MaxParam && u.Num >= -api.MaxParam && u.Num <= api.MaxParam
}

// meridian returns the place with the parameters s and 0. Its numbers are too small for an error.
func meridian(g api.Globe, s api.Frac) api.Vec {
	nn, dd := s.Num*s.Num, s.Den*s.Den
	x, _ := frac.Make(int64(g.A)*(dd-nn), dd+nn)
	z, _ := frac.Make(int64(g.B)*2*s.Num*s.Den, dd+nn)
	return api.Vec{X: x, Y: whole(0), Z: z}
}

func Params(g api.Globe, p api.Vec) (s, t api.Frac, e api.Errno) {
	if e = mustLie(g, p); e != api.OK {
		return api.Frac{}, api.Frac{}, e
	}
	// The measure of p needed it, too, so that it has no error.
	r, _ := relative(g, p)
	s, t, ok := params(r)
	if !ok {
		return api.Frac{}, api.Frac{}, api.ErrNone
	}
	return s, t, api.OK
}

// params returns the parameters of the point with the relative vector r, whose measure is 1, if there are any.
func params(r api.Vec) (s, t api.Frac, ok bool) {
	c, ok := across(r.Z)
	if !ok {
		return s, t, false
	}
	if s, ok = half(c, whole(1), r.Z); !ok || c.Num == 0 {
		return s, whole(0), ok
	}
	t, ok = half(r.X, c, r.Y)
	return s, t, ok
}

// across returns the c that is not less than 0 with c c + k k = 1, if it is a fraction.
// It asks that k k is at most 1 and has a fraction, so that no number here is out of range.
func across(k api.Frac) (c api.Frac, ok bool) {
	square := k.Den*k.Den - k.Num*k.Num
	root := int64(sort.Search(int(k.Den), func(n int) bool { return int64(n)*int64(n) >= square }))
	c, _ = frac.Make(root, k.Den)
	return c, root*root == square
}

// half returns the parameter u for which x is r c(u) and y is r k(u), if there is one: the tangent of half an angle.
func half(x, r, y api.Frac) (u api.Frac, ok bool) {
	// A sum that has no fraction has no quotient, either.
	sum, _ := frac.Add(r, x)
	// Half of half a turn, where the sum is 0, has no tangent.
	u, e := frac.Div(y, sum)
	return u, e == api.OK && isParam(u)
}
