package vec

import (
	"fringe/api"
	"fringe/frac"
)

type row = [3]api.Frac

// pair has the factors of a product.
type pair [2]api.Frac

func list(v api.Vec) row {
	return row{v.X, v.Y, v.Z}
}

// vector passes an error on, so that it can be put around a call that returns a row.
func vector(r row, e api.Errno) (api.Vec, api.Errno) {
	return api.Vec{X: r[0], Y: r[1], Z: r[2]}, e
}

func whole(n int64) api.Frac {
	return api.Frac{Num: n, Den: 1}
}

func minus(a api.Frac) api.Frac {
	return api.Frac{Num: -a.Num, Den: a.Den}
}

// after returns the two axes after an axis.
func after(axis int) (int, int) {
	return (axis + 1) % 3, (axis + 2) % 3
}

func check(rows ...row) api.Errno {
	for _, r := range rows {
		for _, a := range r {
			if e := frac.Check(a); e != api.OK {
				return e
			}
		}
	}
	return api.OK
}

// fill returns the row with the elements that at gives, or its first error.
func fill(at func(k int) (api.Frac, api.Errno)) (row, api.Errno) {
	var r row
	for k := range r {
		var e api.Errno
		if r[k], e = at(k); e != api.OK {
			return row{}, e
		}
	}
	return r, api.OK
}

// sum adds up products. All that lies between has to be a fraction, too.
func sum(products ...pair) (api.Frac, api.Errno) {
	total := whole(0)
	for _, p := range products {
		a, e := frac.Mul(p[0], p[1])
		if e != api.OK {
			return api.Frac{}, e
		}
		if total, e = frac.Add(total, a); e != api.OK {
			return api.Frac{}, e
		}
	}
	return total, api.OK
}

func dot(v, w row) (api.Frac, api.Errno) {
	return sum(pair{v[0], w[0]}, pair{v[1], w[1]}, pair{v[2], w[2]})
}

func cross(v, w row) (row, api.Errno) {
	return fill(func(k int) (api.Frac, api.Errno) {
		i, j := after(k)
		return sum(pair{v[i], w[j]}, pair{minus(v[j]), w[i]})
	})
}
