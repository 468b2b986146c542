package vec

import (
	"testing"

	"fringe/api"
)

// spoilt are the vectors with one coordinate that is not valid; the other ones are out of range for each product.
func spoilt(a api.Frac) []api.Vec {
	top := api.Frac{Num: most, Den: 1}
	v := api.Vec{X: top, Y: top, Z: top}
	return []api.Vec{with(v, 0, a), with(v, 1, a), with(v, 2, a)}
}

// spoiltMats are the same with matrices.
func spoiltMats(a api.Frac) []api.Mat {
	top := api.Frac{Num: most, Den: 1}
	var l []api.Mat
	for at := range 9 {
		var m api.Mat
		for k := range 9 {
			m[k/3][k%3] = top
		}
		m[at/3][at%3] = a
		l = append(l, m)
	}
	return l
}

func TestErrBadFirst(t *testing.T) {
	top := api.Frac{Num: most, Den: 1}
	good := api.Vec{X: top, Y: top, Z: top}
	for _, a := range bad {
		for _, v := range spoilt(a) {
			for _, c := range [][2]api.Vec{{v, good}, {good, v}, {v, v}} {
				for name, do := range map[string]func(v, w api.Vec) (api.Vec, api.Errno){"Add": Add, "Sub": Sub, "Cross": Cross} {
					if r, e := do(c[0], c[1]); r != (api.Vec{}) || e != api.ErrBad {
						t.Error(name, c, r, e)
					}
				}
				if r, e := Dot(c[0], c[1]); r != (api.Frac{}) || e != api.ErrBad {
					t.Error("Dot", c, r, e)
				}
			}
			for _, f := range []api.Frac{top, a} {
				if r, e := Scale(v, f); r != (api.Vec{}) || e != api.ErrBad {
					t.Error("Scale", v, f, r, e)
				}
			}
		}
		if r, e := Scale(good, a); r != (api.Vec{}) || e != api.ErrBad {
			t.Error("Scale", a, r, e)
		}
		for axis := -1; axis <= 3; axis++ {
			if r, e := Turn(axis, a); r != (api.Mat{}) || e != api.ErrBad {
				t.Error("Turn", axis, a, r, e)
			}
		}
	}
}

func TestErrBadFirstOfMatrices(t *testing.T) {
	top := api.Frac{Num: most, Den: 1}
	r := [3]api.Frac{top, top, top}
	good, v := api.Mat{r, r, r}, api.Vec{X: top, Y: top, Z: top}
	for _, a := range bad {
		for _, m := range spoiltMats(a) {
			for _, c := range [][2]api.Mat{{m, good}, {good, m}, {m, m}} {
				if p, e := Prod(c[0], c[1]); p != (api.Mat{}) || e != api.ErrBad {
					t.Error("Prod", c, p, e)
				}
			}
			if w, e := Apply(m, v); w != (api.Vec{}) || e != api.ErrBad {
				t.Error("Apply", m, w, e)
			}
			if n, e := Flip(m); n != (api.Mat{}) || e != api.ErrBad {
				t.Error("Flip", m, n, e)
			}
			if d, e := Det(m); d != (api.Frac{}) || e != api.ErrBad {
				t.Error("Det", m, d, e)
			}
			if is, e := Is(m); is || e != api.ErrBad {
				t.Error("Is", m, is, e)
			}
		}
		for _, w := range spoilt(a) {
			if x, e := Apply(good, w); x != (api.Vec{}) || e != api.ErrBad {
				t.Error("Apply", w, x, e)
			}
		}
	}
}

// TestR2Twice calls functions twice with the same values, and changes the results between: nothing is kept, and the arguments are as before.
func TestR2Twice(t *testing.T) {
	d := dice(8)
	for range 200 {
		m, n, v := d.mat(4), d.mat(4), d.vec(4)
		oldM, oldN, oldV := m, n, v
		for range 2 {
			p, e := Prod(m, n)
			want, code := wantProd(oldM, oldN)
			if p != want || e != code {
				t.Error("Prod", m, n, p, e)
			}
			x, e := Apply(m, v)
			w, code := wantApply(oldM, oldV)
			if x != w || e != code {
				t.Error("Apply", m, v, x, e)
			}
			f, e := Flip(m)
			if f != wantFlip(oldM) || e != api.OK {
				t.Error("Flip", m, f, e)
			}
			q, e := Turn(1, v.X)
			turned, code := wantTurn(1, oldV.X)
			if q != turned || e != code {
				t.Error("Turn", v.X, q, e)
			}
			for k := range 9 {
				p[k/3][k%3], f[k/3][k%3], q[k/3][k%3] = api.Frac{}, api.Frac{}, api.Frac{}
			}
		}
		if m != oldM || n != oldN || v != oldV {
			t.Error("changed", m, n, v)
		}
	}
}

// TestR7NeverPanics calls everything with fractions of any numbers, valid or not, of which all results are zero values if there is an error.
func TestR7NeverPanics(t *testing.T) {
	d := dice(9)
	number := func() int64 { return numbers[d.next()%uint64(len(numbers))] }
	one := func() api.Frac {
		for {
			if a := (api.Frac{Num: number(), Den: number()}); d.next()%40 == 0 || valid(a) {
				return a
			}
		}
	}
	vec := func() api.Vec { return api.Vec{X: one(), Y: one(), Z: one()} }
	for range 5000 {
		v, w, f := vec(), vec(), one()
		var m, n api.Mat
		for k := range 9 {
			m[k/3][k%3], n[k/3][k%3] = one(), one()
		}
		for axis := -1; axis <= 3; axis++ {
			if r, e := Turn(axis, f); e != api.OK && r != (api.Mat{}) {
				t.Error("Turn", axis, f, r, e)
			}
		}
		Check(v)
		for k, do := range []func() (api.Vec, api.Errno){
			func() (api.Vec, api.Errno) { return Add(v, w) }, func() (api.Vec, api.Errno) { return Sub(v, w) }, func() (api.Vec, api.Errno) { return Scale(v, f) },
			func() (api.Vec, api.Errno) { return Cross(v, w) }, func() (api.Vec, api.Errno) { return Apply(m, v) },
		} {
			if r, e := do(); e != api.OK && r != (api.Vec{}) {
				t.Error(k, v, w, f, r, e)
			}
		}
		if r, e := Dot(v, w); e != api.OK && r != (api.Frac{}) {
			t.Error("Dot", v, w, r, e)
		}
		if r, e := Prod(m, n); e != api.OK && r != (api.Mat{}) {
			t.Error("Prod", m, n, r, e)
		}
		if r, e := Flip(m); e != api.OK && r != (api.Mat{}) {
			t.Error("Flip", m, r, e)
		}
		if r, e := Det(m); e != api.OK && r != (api.Frac{}) {
			t.Error("Det", m, r, e)
		}
		if r, e := Is(m); e != api.OK && r {
			t.Error("Is", m, r, e)
		}
	}
}
