package sine

import (
	"math"
	"math/big"

	"fringe/api"
)

const (
	most  = api.MaxFrac
	limit = api.MaxSpan
	fine  = 320 // bits of a number after its point
)

var badFracs = []api.Frac{
	{Num: 0, Den: 0}, {Num: 1, Den: 0}, {Num: 1, Den: -1}, {Num: 0, Den: -1}, {Num: 0, Den: 2}, {Num: 2, Den: 2}, {Num: -2, Den: 4}, {Num: 6, Den: 9},
	{Num: most + 1, Den: 1}, {Num: -most - 1, Den: 1}, {Num: 1, Den: most + 1}, {Num: math.MaxInt64, Den: 1}, {Num: math.MinInt64, Den: 1}, {Num: 1, Den: math.MinInt64}, {Num: math.MinInt64, Den: math.MinInt64},
}

// badSpans are no enclosures, for each reason and at the ends of the ranges.
var badSpans = []api.Span{
	{Lo: 1, Hi: 0}, {Lo: 0, Hi: -1}, {Lo: limit, Hi: -limit}, {Lo: 7, Hi: 6}, {Lo: limit, Hi: limit - 1},
	{Lo: 0, Hi: limit + 1}, {Lo: limit + 1, Hi: limit + 1}, {Lo: -limit - 1, Hi: 0}, {Lo: -limit - 1, Hi: -limit - 1}, {Lo: -limit - 1, Hi: limit + 1},
	{Lo: math.MinInt64, Hi: math.MaxInt64}, {Lo: math.MaxInt64, Hi: math.MinInt64}, {Lo: math.MinInt64, Hi: 0}, {Lo: 0, Hi: math.MaxInt64}, {Lo: math.MinInt64, Hi: math.MinInt64}, {Lo: math.MaxInt64, Hi: math.MaxInt64},
}

// edges are numbers that are ends of enclosures, at the ends of the ranges and around whole millions.
var edges = []int64{
	-limit, -limit + 1, -2000000001, -54772256, -54772255, -1000001, -1000000, -999999, -500000, -1000, -2, -1,
	0, 1, 2, 3, 1000, 500000, 999999, 1000000, 1000001, 1500000, 54772255, 54772256, 2000000001, limit - 1, limit,
}

// spans are all enclosures with those ends.
func spans() []api.Span {
	var l []api.Span
	for _, lo := range edges {
		for _, hi := range edges {
			if lo <= hi {
				l = append(l, api.Span{Lo: lo, Hi: hi})
			}
		}
	}
	return l
}

// wantSpan is the definition of a valid enclosure.
func wantSpan(a api.Span) bool {
	return a.Lo <= a.Hi && -3000000000 <= a.Lo && a.Hi <= 3000000000
}

// wantFrac is the definition of a valid fraction, by way of big numbers.
func wantFrac(a api.Frac) bool {
	if a.Den < 1 || a.Den > most || a.Num < -most || a.Num > most {
		return false
	}
	return exact(a).Denom().Cmp(big.NewInt(a.Den)) == 0
}

func exact(a api.Frac) *big.Rat { return big.NewRat(a.Num, a.Den) }

// read is the number with a text.
func read(s string) *big.Rat {
	r, ok := new(big.Rat).SetString(s)
	if !ok {
		panic("no number: " + s)
	}
	return r
}

// fracOf is the fraction with a text.
func fracOf(s string) api.Frac {
	r := read(s)
	return api.Frac{Num: r.Num().Int64(), Den: r.Denom().Int64()}
}

func million(x *big.Rat) *big.Rat { return new(big.Rat).Mul(x, big.NewRat(1000000, 1)) }

func floorOf(x *big.Rat) *big.Int {
	return new(big.Int).Div(x.Num(), x.Denom()) // Euclid's division: the denominator is greater than 0
}

func ceilOf(x *big.Rat) *big.Int {
	y := floorOf(new(big.Rat).Neg(x))
	return y.Neg(y)
}

// outward is the enclosure of the numbers from lo to hi, both in millionths, or ErrRange.
func outward(lo, hi *big.Rat) (api.Span, api.Errno) {
	f, c := floorOf(lo), ceilOf(hi)
	if !f.IsInt64() || !c.IsInt64() {
		return api.Span{}, api.ErrRange
	}
	if a := (api.Span{Lo: f.Int64(), Hi: c.Int64()}); wantSpan(a) {
		return a, api.OK
	}
	return api.Span{}, api.ErrRange
}

// wantHas is the definition of what an enclosure has, for a number of any size.
func wantHas(a api.Span, x *big.Rat) bool {
	m := million(x)
	return m.Cmp(big.NewRat(a.Lo, 1)) >= 0 && m.Cmp(big.NewRat(a.Hi, 1)) <= 0
}

// wantWorks are the sum, the difference and the product of two enclosures, each one with its error.
func wantWorks(a, b api.Span) (l [3]api.Span, e [3]api.Errno) {
	if !wantSpan(a) || !wantSpan(b) {
		return l, [3]api.Errno{api.ErrBad, api.ErrBad, api.ErrBad}
	}
	rat := func(n int64) *big.Rat { return big.NewRat(n, 1) }
	l[0], e[0] = outward(rat(a.Lo+b.Lo), rat(a.Hi+b.Hi))
	l[1], e[1] = outward(rat(a.Lo-b.Hi), rat(a.Hi-b.Lo))
	var lo, hi *big.Rat
	for _, x := range []int64{a.Lo, a.Hi} {
		for _, y := range []int64{b.Lo, b.Hi} {
			p := new(big.Rat).Mul(big.NewRat(x, 1000000), rat(y))
			if lo == nil || p.Cmp(lo) < 0 {
				lo = p
			}
			if hi == nil || p.Cmp(hi) > 0 {
				hi = p
			}
		}
	}
	l[2], e[2] = outward(lo, hi)
	return l, e
}

func works(a, b api.Span) (l [3]api.Span, e [3]api.Errno) {
	l[0], e[0] = Add(a, b)
	l[1], e[1] = Sub(a, b)
	l[2], e[2] = Mul(a, b)
	return l, e
}

// point has the cosine and the sine of an angle, in parts of 2^fine.
type point [2]*big.Int

func unit() *big.Int { return new(big.Int).Lsh(big.NewInt(1), fine) }

func times(x, y *big.Int) *big.Int {
	z := new(big.Int).Mul(x, y)
	return z.Rsh(z, fine)
}

// arctan is the angle in half a circle of radius 1 whose tangent is 1 / n.
func arctan(n int64) *big.Int {
	sum, power := new(big.Int), new(big.Int).Quo(unit(), big.NewInt(n))
	for k := int64(1); power.Sign() != 0; k += 2 {
		term := new(big.Int).Quo(power, big.NewInt(k))
		if k%4 == 3 {
			term.Neg(term)
		}
		sum.Add(sum, term)
		power.Quo(power, big.NewInt(n*n))
	}
	return sum
}

// turn is the angle of a turn, by Machin's formula.
func turn() *big.Int {
	pi := new(big.Int).Mul(arctan(5), big.NewInt(16))
	pi.Sub(pi, new(big.Int).Mul(arctan(239), big.NewInt(4)))
	return pi.Mul(pi, big.NewInt(2))
}

// at is the point of an angle, by both series.
func at(angle *big.Int) point {
	p := point{new(big.Int), new(big.Int)}
	term := unit()
	for k := int64(0); term.Sign() != 0; k++ {
		if k%4 < 2 {
			p[k%2].Add(p[k%2], term)
		} else {
			p[k%2].Sub(p[k%2], term)
		}
		term = times(term, angle)
		term.Quo(term, big.NewInt(k+1))
	}
	return p
}

// onward is the point of both angles added.
func (p point) onward(q point) point {
	return point{new(big.Int).Sub(times(p[0], q[0]), times(p[1], q[1])), new(big.Int).Add(times(p[0], q[1]), times(p[1], q[0]))}
}

// circle are the points of all parts of n of a turn, each one from the one before it.
func circle(n int) []point {
	first := at(new(big.Int).Quo(turn(), big.NewInt(int64(n))))
	l := []point{{unit(), new(big.Int)}}
	for len(l) < n {
		l = append(l, l[len(l)-1].onward(first))
	}
	return l
}

// enclosed is the enclosure of a number in parts of 2^fine, of which about 300 bits are right: what is within 2^-200 of a whole number of millionths is that number.
func enclosed(x *big.Int) api.Span {
	m := new(big.Int).Mul(x, big.NewInt(1000000))
	near := new(big.Int).Rsh(unit(), 200)
	lo := new(big.Int).Sub(m, near)
	hi := new(big.Int).Add(m, near)
	hi.Rsh(hi, fine) // the greatest whole number that is not greater
	lo.Rsh(lo, fine)
	if lo.Cmp(hi) != 0 {
		return api.Span{Lo: hi.Int64(), Hi: hi.Int64()}
	}
	return api.Span{Lo: lo.Int64(), Hi: lo.Int64() + 1}
}

// dice gives the same numbers in each run.
type dice uint64

func (d *dice) next() uint64 {
	*d = *d*6364136223846793005 + 1442695040888963407
	x := uint64(*d)
	return x ^ x>>29
}

func (d *dice) below(n int64) int64 { return int64(d.next() % uint64(n)) }

// frac gives a valid fraction whose numbers have any size.
func (d *dice) frac() api.Frac {
	for {
		n, m := int64(d.next()>>(4+d.next()%58)), int64(d.next()>>(4+d.next()%58))
		if d.next()%2 == 0 {
			n = -n
		}
		if a := (api.Frac{Num: n, Den: m}); wantFrac(a) {
			return a
		}
	}
}

// end gives an end of an enclosure of any size.
func (d *dice) end() int64 {
	if d.below(8) == 0 {
		return edges[d.below(int64(len(edges)))]
	}
	n := d.below(limit+1) >> d.below(32)
	if d.below(2) == 0 {
		return -n
	}
	return n
}

func (d *dice) span() api.Span {
	a, b := d.end(), d.end()
	if d.below(4) == 0 {
		b = min(a+d.below(3), limit)
	}
	return api.Span{Lo: min(a, b), Hi: max(a, b)}
}

// inside gives a number that an enclosure has: an end of it, or one between.
func (d *dice) inside(a api.Span) *big.Rat {
	den := 1 + d.below(1000)
	num := d.below(den + 1)
	if d.below(3) == 0 {
		num = den * d.below(2)
	}
	x := big.NewRat(num, den)
	x.Mul(x, big.NewRat(a.Hi-a.Lo, 1)).Add(x, big.NewRat(a.Lo, 1))
	return x.Mul(x, big.NewRat(1, 1000000))
}
