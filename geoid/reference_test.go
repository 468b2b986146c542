package geoid

import (
	"math"
	"math/big"
	"strings"
	"testing"

	"fringe/api"
)

const most = api.MaxFrac

// e18 is the text of the greatest number of a fraction.
const e18 = "1000000000000000000"

// bad are fractions that are not valid, for each reason and at the ends of the ranges.
var bad = []api.Frac{
	{Num: 0, Den: 0}, {Num: 1, Den: 0}, {Num: 1, Den: -1}, {Num: 0, Den: -1}, {Num: -1, Den: -2}, {Num: 0, Den: 2}, {Num: 2, Den: 2}, {Num: -2, Den: 4}, {Num: 6, Den: 9},
	{Num: most + 1, Den: 1}, {Num: -most - 1, Den: 1}, {Num: 1, Den: most + 1}, {Num: math.MaxInt64, Den: 1}, {Num: math.MinInt64, Den: 1}, {Num: 1, Den: math.MinInt64}, {Num: math.MinInt64, Den: math.MinInt64},
}

// badGlobes are globes that are not valid, for each reason and at the ends of the ranges.
var badGlobes = []api.Globe{
	{}, {A: 0, B: 1}, {A: 1, B: 0}, {A: -1, B: 1}, {A: 1, B: -1}, {A: 1001, B: 1000}, {A: 1000, B: 1001}, {A: -5, B: -5},
	{A: math.MaxInt, B: 1}, {A: 1, B: math.MaxInt}, {A: math.MinInt, B: 1}, {A: 1, B: math.MinInt},
}

// goodGlobes are valid, at the ends of the ranges, too.
var goodGlobes = []api.Globe{{A: 1, B: 1}, {A: 6, B: 3}, {A: 3, B: 7}, {A: 25, B: 13}, {A: 1000, B: 1}, {A: 1, B: 1000}, {A: 1000, B: 1000}, {A: 997, B: 991}}

// valid is the definition of a valid fraction, by way of big numbers.
func valid(a api.Frac) bool {
	if a.Den < 1 || a.Den > most || a.Num < -most || a.Num > most {
		return false
	}
	return new(big.Int).GCD(nil, nil, new(big.Int).Abs(big.NewInt(a.Num)), big.NewInt(a.Den)).Cmp(big.NewInt(1)) == 0
}

// exact is the number that a valid fraction stands for.
func exact(a api.Frac) *big.Rat { return big.NewRat(a.Num, a.Den) }

func whole64(n int) *big.Rat { return big.NewRat(int64(n), 1) }

// fraction is the fraction of a number, or ErrRange; a number that is missing has none.
func fraction(r *big.Rat) (api.Frac, api.Errno) {
	if r != nil && r.Num().IsInt64() && r.Denom().IsInt64() {
		if a := (api.Frac{Num: r.Num().Int64(), Den: r.Denom().Int64()}); valid(a) {
			return a, api.OK
		}
	}
	return api.Frac{}, api.ErrRange
}

// inRange returns a number if it has a fraction, or nil.
func inRange(r *big.Rat) *big.Rat {
	if _, e := fraction(r); e != api.OK {
		return nil
	}
	return r
}

func product(x, y *big.Rat) *big.Rat {
	if x == nil || y == nil {
		return nil
	}
	return inRange(new(big.Rat).Mul(x, y))
}

func plus(x, y *big.Rat) *big.Rat {
	if x == nil || y == nil {
		return nil
	}
	return inRange(new(big.Rat).Add(x, y))
}

func over(x, y *big.Rat) *big.Rat { return inRange(new(big.Rat).Quo(x, y)) }

// triple has the coordinates of a vector; one that is missing is nil.
type triple [3]*big.Rat

func exactVec(v api.Vec) triple { return triple{exact(v.X), exact(v.Y), exact(v.Z)} }

func relativeOf(g api.Globe, p api.Vec) triple {
	return triple{over(exact(p.X), whole64(g.A)), over(exact(p.Y), whole64(g.A)), over(exact(p.Z), whole64(g.B))}
}

func normalOf(g api.Globe, p api.Vec) triple {
	return triple{over(exact(p.X), whole64(g.A*g.A)), over(exact(p.Y), whole64(g.A*g.A)), over(exact(p.Z), whole64(g.B*g.B))}
}

// compareOf is the sign of a dot product less 1, or ErrRange.
func compareOf(v, w triple) (int, api.Errno) {
	d := plus(plus(product(v[0], w[0]), product(v[1], w[1])), product(v[2], w[2]))
	if d == nil {
		return 0, api.ErrRange
	}
	return d.Cmp(whole64(1)), api.OK
}

func wantInside(g api.Globe, p api.Vec) (int, api.Errno) {
	r := relativeOf(g, p)
	return compareOf(r, r)
}

func wantNormal(g api.Globe, p api.Vec) (api.Vec, api.Errno) {
	n := normalOf(g, p)
	x, e := fraction(n[0])
	y, f := fraction(n[1])
	z, h := fraction(n[2])
	if e != api.OK || f != api.OK || h != api.OK {
		return api.Vec{}, api.ErrRange
	}
	return api.Vec{X: x, Y: y, Z: z}, api.OK
}

func wantSide(g api.Globe, p, q api.Vec) (int, api.Errno) {
	sign, e := wantInside(g, p)
	if e != api.OK {
		return 0, e
	}
	if sign != 0 {
		return 0, api.ErrNone
	}
	return compareOf(normalOf(g, p), exactVec(q))
}

// fold returns c(u) and k(u).
func fold(u api.Frac) (c, k *big.Rat) {
	n, d := u.Num*u.Num, u.Den*u.Den
	return big.NewRat(d-n, d+n), big.NewRat(2*u.Num*u.Den, d+n)
}

// wantAt takes parameters of any size.
func wantAt(g api.Globe, s, t api.Frac) api.Vec {
	cs, ks := fold(s)
	ct, kt := fold(t)
	times := func(n int, x, y *big.Rat) api.Frac {
		a, _ := fraction(x.Mul(new(big.Rat).Mul(x, y), whole64(n)))
		return a
	}
	return api.Vec{X: times(g.A, ct, cs), Y: times(g.A, kt, cs), Z: times(g.B, ks, whole64(1))}
}

// wantParam is the definition of a parameter.
func wantParam(a api.Frac) bool {
	return valid(a) && a.Den <= 20 && a.Num >= -20 && a.Num <= 20
}

// parameters are all of them.
func parameters() []api.Frac {
	var l []api.Frac
	for den := range int64(21) {
		for num := int64(-20); num <= 20; num++ {
			if a := (api.Frac{Num: num, Den: den}); wantParam(a) {
				l = append(l, a)
			}
		}
	}
	return l
}

// steep are all parameters from -1 to 1.
func steep() []api.Frac {
	var l []api.Frac
	for _, a := range parameters() {
		if new(big.Rat).Abs(exact(a)).Cmp(whole64(1)) <= 0 {
			l = append(l, a)
		}
	}
	return l
}

// dice gives the same numbers in each run.
type dice uint64

func (d *dice) next() uint64 {
	*d = *d*6364136223846793005 + 1442695040888963407
	x := uint64(*d)
	return x ^ x>>29
}

// frac gives a valid fraction whose numbers have at most so many bits, from 1 to 60 of them.
func (d *dice) frac(bits uint64) api.Frac {
	for {
		n, m := int64(d.next()>>(64-bits+d.next()%bits)), int64(d.next()>>(64-bits+d.next()%bits))
		if d.next()%2 == 0 {
			n = -n
		}
		if a := (api.Frac{Num: n, Den: m}); valid(a) {
			return a
		}
	}
}

func (d *dice) vec(bits uint64) api.Vec {
	return api.Vec{X: d.frac(bits), Y: d.frac(bits), Z: d.frac(bits)}
}

func (d *dice) globe() api.Globe {
	return api.Globe{A: 1 + int(d.next()%1000)>>(d.next()%10), B: 1 + int(d.next()%1000)>>(d.next()%10)}
}

func (d *dice) oneOf(l []api.Frac) api.Frac { return l[d.next()%uint64(len(l))] }

// read is the fraction with a text.
func read(t *testing.T, s string) api.Frac {
	t.Helper()
	r, ok := new(big.Rat).SetString(s)
	if !ok {
		t.Fatal("no number:", s)
	}
	a, e := fraction(r)
	if e != api.OK {
		t.Fatal("no fraction:", s)
	}
	return a
}

// vecOf is the vector whose coordinates have a text, with spaces between them.
func vecOf(t *testing.T, s string) api.Vec {
	t.Helper()
	l := strings.Fields(s)
	if len(l) != 3 {
		t.Fatal("no vector:", s)
	}
	return api.Vec{X: read(t, l[0]), Y: read(t, l[1]), Z: read(t, l[2])}
}

// with is a vector with another coordinate.
func with(v api.Vec, k int, a api.Frac) api.Vec {
	switch k {
	case 0:
		v.X = a
	case 1:
		v.Y = a
	default:
		v.Z = a
	}
	return v
}
