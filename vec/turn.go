package vec

import (
	"fringe/api"
	"fringe/frac"
)

func Turn(axis int, t api.Frac) (api.Mat, api.Errno) {
	if e := frac.Check(t); e != api.OK {
		return api.Mat{}, e
	}
	if axis < 0 || axis > 2 {
		return api.Mat{}, api.ErrArg
	}
	c, s, e := circle(t)
	if e != api.OK {
		return api.Mat{}, e
	}
	m := unit()
	j, k := after(axis)
	m[j][j], m[j][k] = c, minus(s)
	m[k][j], m[k][k] = s, c
	return m, api.OK
}

// circle returns the point c, s of the unit circle with the parameter t, which is valid.
func circle(t api.Frac) (c, s api.Frac, e api.Errno) {
	do := func(op func(a, b api.Frac) (api.Frac, api.Errno), a, b api.Frac) api.Frac {
		// After an error nothing is reckoned, so that the first error is kept.
		if e != api.OK {
			return api.Frac{}
		}
		var r api.Frac
		r, e = op(a, b)
		return r
	}
	square := do(frac.Mul, t, t)
	across := do(frac.Sub, whole(1), square)
	under := do(frac.Add, whole(1), square)
	// Twice t is a fraction if its square is one.
	c, s = do(frac.Div, across, under), do(frac.Div, do(frac.Add, t, t), under)
	return c, s, e
}

// unit is the matrix that changes nothing.
func unit() api.Mat {
	var m api.Mat
	for i := range m {
		for k := range m[i] {
			m[i][k] = whole(0)
		}
		m[i][i] = whole(1)
	}
	return m
}

func Is(m api.Mat) (bool, api.Errno) {
	if e := check(m[:]...); e != api.OK {
		return false, e
	}
	p, e := dots(m, m)
	if e != api.OK {
		return false, e
	}
	d, e := det(m)
	if e != api.OK {
		return false, e
	}
	return p == unit() && d == whole(1), api.OK
}
