package frac

import (
	"math"
	"math/big"
	"testing"

	"fringe/api"
)

// nearBySearch tries each denominator.
func nearBySearch(a api.Frac, most int64) api.Frac {
	x := exact(a)
	var best, least *big.Rat
	for d := int64(1); d <= most; d++ {
		low := new(big.Int).Div(new(big.Int).Mul(big.NewInt(a.Num), big.NewInt(d)), big.NewInt(a.Den)).Int64()
		for _, n := range []int64{low, low + 1} {
			r := big.NewRat(n, d)
			by := new(big.Rat).Sub(x, r)
			by.Abs(by)
			if best == nil || by.Cmp(least) < 0 || by.Cmp(least) == 0 && r.Cmp(best) < 0 {
				best, least = r, by
			}
		}
	}
	f, _ := fraction(best)
	return f
}

// nearByMediants narrows the two fractions around a by mediants, as many as fit at a time.
func nearByMediants(a api.Frac, most int64) api.Frac {
	n, d, m := big.NewInt(a.Num), big.NewInt(a.Den), big.NewInt(most)
	low := new(big.Int).Div(n, d)
	p, q := low, big.NewInt(1)
	r, s := new(big.Int).Add(low, q), big.NewInt(1)
	// walk adds x / y to z / w while the denominator fits and the other side of a is not reached.
	walk := func(z, w, x, y *big.Int) bool {
		away := func(num, den *big.Int) *big.Int {
			v := new(big.Int).Mul(n, den)
			return v.Abs(v.Sub(v, new(big.Int).Mul(num, d)))
		}
		k := new(big.Int).Div(new(big.Int).Sub(m, w), y)
		if v := away(x, y); v.Sign() != 0 {
			if l := new(big.Int).Div(away(z, w), v); l.Cmp(k) < 0 {
				k = l
			}
		}
		z.Add(z, new(big.Int).Mul(k, x))
		w.Add(w, new(big.Int).Mul(k, y))
		return k.Sign() > 0
	}
	for {
		one := walk(p, q, r, s)
		if two := walk(r, s, p, q); !one && !two {
			break
		}
	}
	x, u, v := exact(a), new(big.Rat).SetFrac(p, q), new(big.Rat).SetFrac(r, s)
	below, above := new(big.Rat).Sub(x, u), new(big.Rat).Sub(v, x)
	if above.Cmp(below) < 0 {
		u = v
	}
	f, _ := fraction(u)
	return f
}

func TestP15NearSmall(t *testing.T) {
	for d := int64(1); d <= 30; d++ {
		for n := int64(-70); n <= 70; n++ {
			a := api.Frac{Num: n, Den: d}
			if !valid(a) {
				continue
			}
			for most := int64(1); most <= 31; most++ {
				want := nearBySearch(a, most)
				if r, e := Near(a, most); r != want || e != api.OK {
					t.Error(a, most, r, e, want)
				}
			}
		}
	}
}

func TestP15NearAtEnds(t *testing.T) {
	limits := []int64{1, 2, 3, 7, 1000, 1 << 32, 1 << 55, most / 3, most / 2, most/2 + 1, most - 2, most - 1, most}
	l := fractions()
	d := dice(5)
	for range 2000 {
		l = append(l, d.frac())
	}
	for _, a := range l {
		for _, most := range append(limits, a.Den, max(1, a.Den-1), 1+int64(d.next()%uint64(a.Den))) {
			want := nearByMediants(a, most)
			if r, e := Near(a, most); r != want || e != api.OK {
				t.Error(a, most, r, e, want)
			}
		}
	}
}

func TestP15NearCases(t *testing.T) {
	for _, c := range []struct {
		a    string
		most int64
		want string
	}{
		{"43/30", 1, "1"}, {"43/30", 2, "3/2"}, {"43/30", 7, "10/7"}, {"43/30", 16, "23/16"}, {"43/30", 29, "33/23"}, {"43/30", 30, "43/30"}, {"43/30", 31, "43/30"},
		// Ties.
		{"1/2", 1, "0"}, {"-1/2", 1, "-1"}, {"3/2", 1, "1"}, {"-3/2", 1, "-2"}, {"5/12", 3, "1/3"}, {"-5/12", 3, "-1/2"}, {"3/4", 2, "1/2"}, {"-3/4", 2, "-1"},
		{"999999999999999999/2", 1, "499999999999999999"}, {"-999999999999999999/2", 1, "-500000000000000000"},
		{"1/1000000000000000000", most / 2, "0"}, {"-1/1000000000000000000", most / 2, "-1/500000000000000000"},
		// Next to a tie.
		{"1/1000000000000000000", most/2 - 1, "0"}, {"1/1000000000000000000", most/2 + 1, "1/500000000000000001"},
		// The ends of the ranges.
		{"999999999999999999/1000000000000000000", most - 1, "999999999999999998/999999999999999999"}, {"999999999999999999/1000000000000000000", 1, "1"},
		{"999999999999999999/1000000000000000000", most, "999999999999999999/1000000000000000000"},
		{"1000000000000000000/999999999999999999", most - 2, "999999999999999999/999999999999999998"},
		{"-1000000000000000000/3", 2, "-666666666666666667/2"}, {"1000000000000000000", 1, "1000000000000000000"}, {"-1000000000000000000", most, "-1000000000000000000"},
		{"0", 1, "0"},
	} {
		if r, e := Near(read(t, c.a), c.most); r != read(t, c.want) || e != api.OK {
			t.Error(c, r, e)
		}
	}
}

func TestP15NearErrors(t *testing.T) {
	for _, m := range []int64{0, -1, math.MinInt64, most + 1, math.MaxInt64} {
		for _, s := range []string{"43/30", "0", "1/1000000000000000000"} {
			if r, e := Near(read(t, s), m); r != (api.Frac{}) || e != api.ErrArg {
				t.Error(s, m, r, e)
			}
		}
		if r, e := Near(api.Frac{Num: 2, Den: 4}, m); r != (api.Frac{}) || e != api.ErrBad {
			t.Error(m, r, e)
		}
	}
}

func TestP17Near(t *testing.T) {
	for _, a := range fractions() {
		if r, e := Near(a, a.Den); r != a || e != api.OK {
			t.Error("own denominator", a, r, e)
		}
	}
	d := dice(6)
	for range 3000 {
		a := d.frac()
		most := 1 + int64(d.next()%uint64(a.Den))
		r, e := Near(a, most)
		if e != api.OK || !valid(r) || r.Den > most {
			t.Error(a, most, r, e)
			continue
		}
		by := new(big.Rat).Sub(exact(a), exact(r))
		by.Abs(by)
		for range 20 {
			den := 1 + int64(d.next()%uint64(most))
			num := new(big.Int).Div(new(big.Int).Mul(big.NewInt(a.Num), big.NewInt(den)), big.NewInt(a.Den)).Int64()
			for _, n := range []int64{num, num + 1} {
				other := new(big.Rat).Sub(exact(a), big.NewRat(n, den))
				if other.Abs(other).Cmp(by) < 0 {
					t.Error("nearer", a, most, r, n, den)
				}
			}
		}
	}
}
