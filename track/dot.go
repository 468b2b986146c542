package track

import (
	"fringe/api"
	"fringe/sine"
	"fringe/vec"
)

// product has the factors of a product.
type product [2]api.Span

// sum adds up products. All that lies between has to be in the range, too.
func sum(products ...product) (api.Span, api.Errno) {
	var total api.Span
	for _, p := range products {
		a, e := sine.Mul(p[0], p[1])
		if e != api.OK {
			return api.Span{}, e
		}
		if total, e = sine.Add(total, a); e != api.OK {
			return api.Span{}, e
		}
	}
	return total, api.OK
}

func dot(a, b api.Dir) (api.Span, api.Errno) {
	return sum(product{a.X, b.X}, product{a.Y, b.Y}, product{a.Z, b.Z})
}

// check returns ErrBad unless all directions are valid.
func check(dirs ...api.Dir) api.Errno {
	for _, d := range dirs {
		for _, a := range []api.Span{d.X, d.Y, d.Z} {
			// A sign that is open is one of an enclosure that is valid.
			if _, e := sine.Sign(a); e == api.ErrBad {
				return e
			}
		}
	}
	return api.OK
}

func Along(d api.Dir, v api.Vec) (api.Span, api.Errno) {
	if e := check(d); e != api.OK {
		return api.Span{}, e
	}
	if e := vec.Check(v); e != api.OK {
		return api.Span{}, e
	}
	w, e := enclose(v)
	if e != api.OK {
		return api.Span{}, e
	}
	return dot(d, w)
}

// enclose replaces the coordinates of a vector by their enclosures.
func enclose(v api.Vec) (d api.Dir, e api.Errno) {
	if d.X, e = sine.Of(v.X); e != api.OK {
		return api.Dir{}, e
	}
	if d.Y, e = sine.Of(v.Y); e != api.OK {
		return api.Dir{}, e
	}
	if d.Z, e = sine.Of(v.Z); e != api.OK {
		return api.Dir{}, e
	}
	return d, api.OK
}

func Dot(a, b api.Dir) (api.Span, api.Errno) {
	if e := check(a, b); e != api.OK {
		return api.Span{}, e
	}
	return dot(a, b)
}
