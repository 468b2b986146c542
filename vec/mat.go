package vec

import "fringe/api"

func Apply(m api.Mat, v api.Vec) (api.Vec, api.Errno) {
	a := list(v)
	if e := check(append(m[:], a)...); e != api.OK {
		return api.Vec{}, e
	}
	return vector(apply(m, a))
}

func apply(m api.Mat, v row) (row, api.Errno) {
	return fill(func(k int) (api.Frac, api.Errno) { return dot(m[k], v) })
}

func Prod(m, n api.Mat) (api.Mat, api.Errno) {
	if e := check(append(m[:], n[:]...)...); e != api.OK {
		return api.Mat{}, e
	}
	return dots(m, flip(n))
}

// dots returns the dot products of each row of m and each row of n, which is the product of m and n flipped.
func dots(m, n api.Mat) (api.Mat, api.Errno) {
	var p api.Mat
	for i, r := range m {
		var e api.Errno
		if p[i], e = apply(n, r); e != api.OK {
			return api.Mat{}, e
		}
	}
	return p, api.OK
}

func Flip(m api.Mat) (api.Mat, api.Errno) {
	if e := check(m[:]...); e != api.OK {
		return api.Mat{}, e
	}
	return flip(m), api.OK
}

func flip(m api.Mat) api.Mat {
	var n api.Mat
	for i, r := range m {
		for k, a := range r {
			n[k][i] = a
		}
	}
	return n
}

func Det(m api.Mat) (api.Frac, api.Errno) {
	if e := check(m[:]...); e != api.OK {
		return api.Frac{}, e
	}
	return det(m)
}

func det(m api.Mat) (api.Frac, api.Errno) {
	r, e := cross(m[1], m[2])
	if e != api.OK {
		return api.Frac{}, e
	}
	return dot(m[0], r)
}
