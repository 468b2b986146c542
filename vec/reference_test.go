package vec

import (
	"math"
	"math/big"
	"strings"
	"testing"

	"fringe/api"
)

const most = api.MaxFrac

// numbers are numbers of 64 bits around the ends of all ranges, and ordinary ones.
var numbers = []int64{
	math.MinInt64, math.MinInt64 + 1, -most - 1, -most, -most + 1, -1000000001, -1000000000, -999999999, -4, -3, -2, -1,
	0, 1, 2, 3, 4, 5, 12, 13, 707106781, 707106783, 999999999, 1000000000, 1000000001, most / 2, most/2 + 1, most - 1, most, most + 1, math.MaxInt64,
}

// bad are fractions that are not valid, for each reason and at the ends of the ranges.
var bad = []api.Frac{
	{Num: 0, Den: 0}, {Num: 1, Den: 0}, {Num: 1, Den: -1}, {Num: 0, Den: -1}, {Num: -1, Den: -2}, {Num: 0, Den: 2}, {Num: 2, Den: 2}, {Num: -2, Den: 4}, {Num: 6, Den: 9},
	{Num: most + 1, Den: 1}, {Num: -most - 1, Den: 1}, {Num: 1, Den: most + 1}, {Num: math.MaxInt64, Den: 1}, {Num: math.MinInt64, Den: 1}, {Num: 1, Den: math.MinInt64}, {Num: math.MinInt64, Den: math.MinInt64},
}

// valid is the definition of a valid fraction, by way of big numbers.
func valid(a api.Frac) bool {
	if a.Den < 1 || a.Den > most || a.Num < -most || a.Num > most {
		return false
	}
	return new(big.Int).GCD(nil, nil, new(big.Int).Abs(big.NewInt(a.Num)), big.NewInt(a.Den)).Cmp(big.NewInt(1)) == 0
}

// exact is the number that a valid fraction stands for.
func exact(a api.Frac) *big.Rat { return big.NewRat(a.Num, a.Den) }

// fraction is the fraction of a number, or ErrRange; a number that is missing has none.
func fraction(r *big.Rat) (api.Frac, api.Errno) {
	if r != nil && r.Num().IsInt64() && r.Denom().IsInt64() {
		if a := (api.Frac{Num: r.Num().Int64(), Den: r.Denom().Int64()}); valid(a) {
			return a, api.OK
		}
	}
	return api.Frac{}, api.ErrRange
}

// inRange returns a number if it has a fraction, or nil.
func inRange(r *big.Rat) *big.Rat {
	if _, e := fraction(r); e != api.OK {
		return nil
	}
	return r
}

// product, sum and difference are nil if they have no fraction, or if one of their arguments is nil.
func product(x, y *big.Rat) *big.Rat {
	if x == nil || y == nil {
		return nil
	}
	return inRange(new(big.Rat).Mul(x, y))
}

func plus(x, y *big.Rat) *big.Rat {
	if x == nil || y == nil {
		return nil
	}
	return inRange(new(big.Rat).Add(x, y))
}

func less(x, y *big.Rat) *big.Rat {
	if x == nil || y == nil {
		return nil
	}
	return inRange(new(big.Rat).Sub(x, y))
}

// over asks that y is not 0.
func over(x, y *big.Rat) *big.Rat {
	if x == nil || y == nil {
		return nil
	}
	return inRange(new(big.Rat).Quo(x, y))
}

// vectorOf is the vector with three numbers as coordinates, or ErrRange if one of them is missing.
func vectorOf(x, y, z *big.Rat) (api.Vec, api.Errno) {
	a, e := fraction(x)
	b, f := fraction(y)
	c, g := fraction(z)
	if e != api.OK || f != api.OK || g != api.OK {
		return api.Vec{}, api.ErrRange
	}
	return api.Vec{X: a, Y: b, Z: c}, api.OK
}

func wantDot(v, w api.Vec) (api.Frac, api.Errno) {
	xx, yy, zz := product(exact(v.X), exact(w.X)), product(exact(v.Y), exact(w.Y)), product(exact(v.Z), exact(w.Z))
	return fraction(plus(plus(xx, yy), zz))
}

func wantCross(v, w api.Vec) (api.Vec, api.Errno) {
	one := func(a, b, c, d api.Frac) *big.Rat {
		return less(product(exact(a), exact(b)), product(exact(c), exact(d)))
	}
	return vectorOf(one(v.Y, w.Z, v.Z, w.Y), one(v.Z, w.X, v.X, w.Z), one(v.X, w.Y, v.Y, w.X))
}

func rowOf(m api.Mat, i int) api.Vec { return api.Vec{X: m[i][0], Y: m[i][1], Z: m[i][2]} }

func columnOf(m api.Mat, k int) api.Vec { return api.Vec{X: m[0][k], Y: m[1][k], Z: m[2][k]} }

func wantApply(m api.Mat, v api.Vec) (api.Vec, api.Errno) {
	x, e := wantDot(rowOf(m, 0), v)
	y, f := wantDot(rowOf(m, 1), v)
	z, g := wantDot(rowOf(m, 2), v)
	if e != api.OK || f != api.OK || g != api.OK {
		return api.Vec{}, api.ErrRange
	}
	return api.Vec{X: x, Y: y, Z: z}, api.OK
}

func wantProd(m, n api.Mat) (api.Mat, api.Errno) {
	var p api.Mat
	for i := range 3 {
		for k := range 3 {
			a, e := wantDot(rowOf(m, i), columnOf(n, k))
			if e != api.OK {
				return api.Mat{}, e
			}
			p[i][k] = a
		}
	}
	return p, api.OK
}

func wantFlip(m api.Mat) api.Mat {
	return api.Mat{{m[0][0], m[1][0], m[2][0]}, {m[0][1], m[1][1], m[2][1]}, {m[0][2], m[1][2], m[2][2]}}
}

func wantDet(m api.Mat) (api.Frac, api.Errno) {
	c, e := wantCross(rowOf(m, 1), rowOf(m, 2))
	if e != api.OK {
		return api.Frac{}, e
	}
	return wantDot(rowOf(m, 0), c)
}

// wantTurn has its matrices written out, as rotations usually are.
func wantTurn(axis int, t api.Frac) (api.Mat, api.Errno) {
	one, u := big.NewRat(1, 1), exact(t)
	square := product(u, u)
	across, under := less(one, square), plus(one, square)
	x, y := over(across, under), (*big.Rat)(nil)
	if under != nil {
		y = inRange(new(big.Rat).Quo(new(big.Rat).Add(u, u), under))
	}
	c, e := fraction(x)
	s, f := fraction(y)
	if e != api.OK || f != api.OK {
		return api.Mat{}, api.ErrRange
	}
	n, l, o := api.Frac{Num: -s.Num, Den: s.Den}, api.Frac{Num: 1, Den: 1}, api.Frac{Num: 0, Den: 1}
	switch axis {
	case 0:
		return api.Mat{{l, o, o}, {o, c, n}, {o, s, c}}, api.OK
	case 1:
		return api.Mat{{c, o, s}, {o, l, o}, {n, o, c}}, api.OK
	}
	return api.Mat{{c, n, o}, {s, c, o}, {o, o, l}}, api.OK
}

func wantIs(m api.Mat) (bool, api.Errno) {
	p, e := wantProd(m, wantFlip(m))
	d, f := wantDet(m)
	if e != api.OK || f != api.OK {
		return false, api.ErrRange
	}
	is := d == api.Frac{Num: 1, Den: 1}
	for i, r := range p {
		for k, a := range r {
			want := api.Frac{Num: 0, Den: 1}
			if i == k {
				want.Num = 1
			}
			is = is && a == want
		}
	}
	return is, api.OK
}

// dice gives the same numbers in each run.
type dice uint64

func (d *dice) next() uint64 {
	*d = *d*6364136223846793005 + 1442695040888963407
	x := uint64(*d)
	return x ^ x>>29
}

// frac gives a valid fraction whose numbers have at most so many bits, from 1 to 60 of them.
func (d *dice) frac(bits uint64) api.Frac {
	for {
		n, m := int64(d.next()>>(64-bits+d.next()%bits)), int64(d.next()>>(64-bits+d.next()%bits))
		if d.next()%2 == 0 {
			n = -n
		}
		if a := (api.Frac{Num: n, Den: m}); valid(a) {
			return a
		}
	}
}

func (d *dice) vec(bits uint64) api.Vec {
	return api.Vec{X: d.frac(bits), Y: d.frac(bits), Z: d.frac(bits)}
}

func (d *dice) mat(bits uint64) api.Mat {
	var m api.Mat
	for i := range m {
		v := d.vec(bits)
		m[i] = [3]api.Frac{v.X, v.Y, v.Z}
	}
	return m
}

// read is the fraction with a text.
func read(t *testing.T, s string) api.Frac {
	t.Helper()
	r, ok := new(big.Rat).SetString(s)
	if !ok {
		t.Fatal("no number:", s)
	}
	a, e := fraction(r)
	if e != api.OK {
		t.Fatal("no fraction:", s)
	}
	return a
}

// vecOf is the vector whose coordinates have a text, with spaces between them.
func vecOf(t *testing.T, s string) api.Vec {
	t.Helper()
	l := strings.Fields(s)
	if len(l) != 3 {
		t.Fatal("no vector:", s)
	}
	return api.Vec{X: read(t, l[0]), Y: read(t, l[1]), Z: read(t, l[2])}
}

// matOf is the matrix whose elements have a text, row by row.
func matOf(t *testing.T, s string) api.Mat {
	t.Helper()
	l := strings.Fields(s)
	if len(l) != 9 {
		t.Fatal("no matrix:", s)
	}
	var m api.Mat
	for k, a := range l {
		m[k/3][k%3] = read(t, a)
	}
	return m
}
