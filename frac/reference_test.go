package frac

import (
	"math"
	"math/big"
	"testing"

	"fringe/api"
)

const most = api.MaxFrac

// numbers are numbers of 64 bits around the ends of all ranges, and ordinary ones.
var numbers = []int64{
	math.MinInt64, math.MinInt64 + 1, -1 << 62, -most - 1, -most, -most + 1, -most / 2, -1 << 32, -999999937, -10, -7, -6, -4, -3, -2, -1,
	0, 1, 2, 3, 4, 5, 6, 7, 9, 10, 12, 30, 43, 1000, 999999937, 1 << 32, 1 << 55, most / 3, most / 2, most - 1, most, most + 1, 1 << 62, math.MaxInt64 - 1, math.MaxInt64,
}

// valid is the definition of a valid fraction, by way of big numbers.
func valid(a api.Frac) bool {
	if a.Den < 1 || a.Den > most || a.Num < -most || a.Num > most {
		return false
	}
	return new(big.Int).GCD(nil, nil, new(big.Int).Abs(big.NewInt(a.Num)), big.NewInt(a.Den)).Cmp(big.NewInt(1)) == 0
}

// exact is the number that a valid fraction stands for.
func exact(a api.Frac) *big.Rat { return big.NewRat(a.Num, a.Den) }

// fraction is the fraction of a number, or ErrRange.
func fraction(r *big.Rat) (api.Frac, api.Errno) {
	if r.Num().IsInt64() && r.Denom().IsInt64() {
		if a := (api.Frac{Num: r.Num().Int64(), Den: r.Denom().Int64()}); valid(a) {
			return a, api.OK
		}
	}
	return api.Frac{}, api.ErrRange
}

// fractions are all valid fractions of numbers.
func fractions() []api.Frac {
	var l []api.Frac
	for _, n := range numbers {
		for _, d := range numbers {
			if a := (api.Frac{Num: n, Den: d}); valid(a) {
				l = append(l, a)
			}
		}
	}
	return l
}

// dice gives the same numbers in each run.
type dice uint64

func (d *dice) next() uint64 {
	*d = *d*6364136223846793005 + 1442695040888963407
	x := uint64(*d)
	return x ^ x>>29
}

// frac gives a valid fraction whose numbers have any size.
func (d *dice) frac() api.Frac {
	for {
		n, m := int64(d.next()>>(4+d.next()%58)), int64(d.next()>>(4+d.next()%58))
		if d.next()%2 == 0 {
			n = -n
		}
		if a := (api.Frac{Num: n, Den: m}); valid(a) {
			return a
		}
	}
}

// bad are fractions that are not valid, for each reason and at the ends of the ranges.
var bad = []api.Frac{
	{Num: 0, Den: 0}, {Num: 1, Den: 0}, {Num: 1, Den: -1}, {Num: 0, Den: -1}, {Num: -1, Den: -2}, {Num: 0, Den: 2}, {Num: 0, Den: most},
	{Num: 2, Den: 2}, {Num: 2, Den: 4}, {Num: -2, Den: 4}, {Num: 6, Den: 9}, {Num: most, Den: most}, {Num: -most, Den: 2}, {Num: 2, Den: most},
	{Num: most + 1, Den: 1}, {Num: -most - 1, Den: 1}, {Num: 1, Den: most + 1}, {Num: math.MaxInt64, Den: 1}, {Num: math.MinInt64, Den: 1},
	{Num: 1, Den: math.MaxInt64}, {Num: 1, Den: math.MinInt64}, {Num: math.MinInt64, Den: math.MinInt64}, {Num: math.MinInt64, Den: -1},
}

// read is the fraction with a text.
func read(t *testing.T, s string) api.Frac {
	t.Helper()
	r, ok := new(big.Rat).SetString(s)
	if !ok {
		t.Fatal("no number:", s)
	}
	a, e := fraction(r)
	if e != api.OK {
		t.Fatal("no fraction:", s)
	}
	return a
}
