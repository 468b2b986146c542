package frac

import (
	"math"
	"math/big"
	"testing"

	"fringe/api"
)

func TestP11Check(t *testing.T) {
	for _, a := range bad {
		if e := Check(a); e != api.ErrBad {
			t.Error(a, e)
		}
	}
	for _, n := range numbers {
		for _, d := range numbers {
			want := api.ErrBad
			if valid(api.Frac{Num: n, Den: d}) {
				want = api.OK
			}
			if e := Check(api.Frac{Num: n, Den: d}); e != want {
				t.Error(n, d, e, want)
			}
		}
	}
}

func TestP11Make(t *testing.T) {
	for _, n := range numbers {
		if a, e := Make(n, 0); a != (api.Frac{}) || e != api.ErrZero {
			t.Error(n, a, e)
		}
		for _, d := range numbers {
			if d == 0 {
				continue
			}
			want, code := fraction(big.NewRat(n, d))
			if a, e := Make(n, d); a != want || e != code {
				t.Error(n, d, a, e, want, code)
			}
		}
	}
}

func TestP11MakeAtEnds(t *testing.T) {
	const least = math.MinInt64
	for _, c := range []struct {
		num, den int64
		want     api.Frac
		e        api.Errno
	}{
		{6, -4, api.Frac{Num: -3, Den: 2}, api.OK},
		{0, -7, api.Frac{Num: 0, Den: 1}, api.OK},
		{0, least, api.Frac{Num: 0, Den: 1}, api.OK},
		{least, least, api.Frac{Num: 1, Den: 1}, api.OK},
		{least, 16, api.Frac{Num: -1 << 59, Den: 1}, api.OK},
		{16, least, api.Frac{Num: -1, Den: 1 << 59}, api.OK},
		{-48, least, api.Frac{Num: 3, Den: 1 << 59}, api.OK},
		{least, 8, api.Frac{}, api.ErrRange},
		{least, 1, api.Frac{}, api.ErrRange},
		{least, -1, api.Frac{}, api.ErrRange},
		{1, least, api.Frac{}, api.ErrRange},
		{most, 1, api.Frac{Num: most, Den: 1}, api.OK},
		{-most, -1, api.Frac{Num: most, Den: 1}, api.OK},
		{most + 1, 1, api.Frac{}, api.ErrRange},
		{most + 2, 2, api.Frac{Num: most/2 + 1, Den: 1}, api.OK},
		{1, -most, api.Frac{Num: -1, Den: most}, api.OK},
		{1, most + 1, api.Frac{}, api.ErrRange},
		{0, 0, api.Frac{}, api.ErrZero},
		{least, 0, api.Frac{}, api.ErrZero},
	} {
		if a, e := Make(c.num, c.den); a != c.want || e != c.e {
			t.Error(c, a, e)
		}
	}
}

// agree compares the four operations and the order of two fractions with those of big numbers.
func agree(t *testing.T, a, b api.Frac) {
	t.Helper()
	x, y := exact(a), exact(b)
	for _, c := range []struct {
		name string
		do   func(a, b api.Frac) (api.Frac, api.Errno)
		want func(x, y *big.Rat) *big.Rat
	}{
		{"Add", Add, new(big.Rat).Add},
		{"Sub", Sub, new(big.Rat).Sub},
		{"Mul", Mul, new(big.Rat).Mul},
		{"Div", Div, new(big.Rat).Quo},
	} {
		var want api.Frac
		code := api.ErrZero
		if c.name != "Div" || b.Num != 0 {
			want, code = fraction(c.want(x, y))
		}
		if r, e := c.do(a, b); r != want || e != code {
			t.Error(c.name, a, b, r, e, want, code)
		}
	}
	if r, e := Cmp(a, b); r != x.Cmp(y) || e != api.OK {
		t.Error("Cmp", a, b, r, e)
	}
}

func TestP12P13AtEnds(t *testing.T) {
	l := fractions()
	for _, a := range l {
		for _, b := range l {
			agree(t, a, b)
		}
	}
}

func TestP12P13Anywhere(t *testing.T) {
	d := dice(1)
	for range 20000 {
		agree(t, d.frac(), d.frac())
	}
}

// TestP12P13Close has fractions next to each other, whose products over a common denominator nearly cancel.
func TestP12P13Close(t *testing.T) {
	d := dice(8)
	for range 5000 {
		a := d.frac()
		b := nearByMediants(a, 1+int64(d.next()%uint64(a.Den)))
		agree(t, a, b)
		agree(t, b, a)
		agree(t, a, api.Frac{Num: -b.Num, Den: b.Den})
	}
}

// TestP12Reduced has sums whose numerators over a common denominator have more than 64 bits, but a large divisor in common with it.
func TestP12Reduced(t *testing.T) {
	const h = 1000003 // a prime number
	d := dice(9)
	many := 0
	for range 20000 {
		x, y := 1+int64(d.next()>>49), 1+int64(d.next()>>49)
		a := int64(d.next() >> 6)
		// b * x is -a * y modulo h.
		b := new(big.Int).ModInverse(big.NewInt(x), big.NewInt(h))
		b.Mul(b, big.NewInt(-a%h*y)).Mod(b, big.NewInt(h))
		b.Add(b, big.NewInt(int64(d.next()>>6)/h*h))
		f, g := api.Frac{Num: a, Den: h * x}, api.Frac{Num: b.Int64(), Den: h * y}
		if !valid(f) || !valid(g) {
			continue
		}
		sum, e := fraction(new(big.Rat).Add(exact(f), exact(g)))
		if e == api.OK && sum.Den < h*x {
			many++
		}
		agree(t, f, g)
		agree(t, f, api.Frac{Num: -g.Num, Den: g.Den})
	}
	if many < 100 {
		t.Error("too few sums are reduced", many)
	}
}

// TestP12Between has results in range whose unreduced forms are not, and results just out of range.
func TestP12Between(t *testing.T) {
	const e18, rest = "1000000000000000000", api.ErrRange
	for _, c := range []struct {
		name, a, b, want string
		do               func(a, b api.Frac) (api.Frac, api.Errno)
		e                api.Errno
	}{
		{"product of thirds", e18 + "/3", "3/" + e18, "1", Mul, api.OK},
		{"quotient of equals", "999999999999999999/" + e18, "999999999999999999/" + e18, "1", Div, api.OK},
		{"common denominator out of range", "1/216172782113783808", "48038396025285289/360287970189639680", "2/15", Add, api.OK},
		{"the same, subtracted", "1/216172782113783808", "-48038396025285289/360287970189639680", "2/15", Sub, api.OK},
		{"greatest sum", e18, "0", e18, Add, api.OK},
		{"greatest sum of halves", "999999999999999999/2", "999999999999999999/2", "999999999999999999", Add, api.OK},
		{"just in range", "999999999999999999", "1", e18, Add, api.OK},
		{"just out of range", e18, "1", "", Add, rest},
		{"out of range by a part", e18, "1/" + e18, "", Add, rest},
		{"least difference", "-999999999999999999", "1", "-" + e18, Sub, api.OK},
		{"below the least difference", "-" + e18, "1", "", Sub, rest},
		{"product just in range", "500000000000000000", "-2", "-" + e18, Mul, api.OK},
		{"product just out of range", "500000000000000001", "2", "", Mul, rest},
		{"denominator just in range", "1/500000000000000000", "1/2", "1/" + e18, Mul, api.OK},
		{"denominator just out of range", "1/500000000000000001", "1/2", "", Mul, rest},
		{"sum of small parts", "1/999999999999999999", "1/" + e18, "", Add, rest},
		{"quotient with a negative divisor", "1", "-" + e18, "-1/" + e18, Div, api.OK},
		{"quotient out of range", "-" + e18, "-1/2", "", Div, rest},
		{"0 divided", "0", "-1/" + e18, "0", Div, api.OK},
		{"divided by 0", e18, "0", "", Div, api.ErrZero},
	} {
		var want api.Frac
		if c.want != "" {
			want = read(t, c.want)
		}
		if r, e := c.do(read(t, c.a), read(t, c.b)); r != want || e != c.e {
			t.Error(c.name, r, e)
		}
	}
}

func TestP13Cmp(t *testing.T) {
	for _, c := range []struct {
		a, b string
		want int
	}{
		{"1/2", "1/3", 1}, {"-1/2", "-1/3", -1}, {"-1/2", "1/3", -1}, {"2/3", "2/3", 0}, {"0", "0", 0}, {"0", "-1", 1},
		{"999999999999999999/1000000000000000000", "999999999999999998/999999999999999999", 1},
		{"-999999999999999999/1000000000000000000", "-999999999999999998/999999999999999999", -1},
		{"1000000000000000000", "-1000000000000000000", 1},
		{"1000000000000000000", "1/1000000000000000000", 1},
	} {
		if r, e := Cmp(read(t, c.a), read(t, c.b)); r != c.want || e != api.OK {
			t.Error(c, r, e)
		}
	}
}

func TestP13Floor(t *testing.T) {
	for s, want := range map[string]int64{
		"-7/2": -4, "7/2": 3, "-7": -7, "7": 7, "0": 0, "1/1000000000000000000": 0, "-1/1000000000000000000": -1,
		"1000000000000000000": most, "-1000000000000000000": -most, "-999999999999999999/2": -most / 2, "999999999999999999/2": most/2 - 1,
	} {
		if r, e := Floor(read(t, s)); r != want || e != api.OK {
			t.Error(s, r, e)
		}
	}
	for _, a := range fractions() {
		// The remainder of DivMod is never negative, so that with a denominator greater than 0 its quotient is the floor.
		want, _ := new(big.Int).DivMod(big.NewInt(a.Num), big.NewInt(a.Den), new(big.Int))
		if r, e := Floor(a); r != want.Int64() || e != api.OK {
			t.Error(a, r, e, want)
		}
	}
}

func TestP17Arithmetic(t *testing.T) {
	d := dice(2)
	differences, quotients := 0, 0
	for range 20000 {
		a, b := d.frac(), d.frac()
		if c, e := Sub(a, b); e == api.OK {
			differences++
			if r, e := Add(c, b); r != a || e != api.OK {
				t.Error("difference", a, b, r, e)
			}
		}
		if c, e := Div(a, b); e == api.OK {
			quotients++
			if r, e := Mul(c, b); r != a || e != api.OK {
				t.Error("quotient", a, b, r, e)
			}
		}
		r, e := Add(a, b)
		s, f := Add(b, a)
		p, g := Mul(a, b)
		q, h := Mul(b, a)
		if r != s || e != f || p != q || g != h {
			t.Error("order", a, b, r, s, p, q)
		}
	}
	if differences < 1000 || quotients < 1000 {
		t.Error("too few results are in range", differences, quotients)
	}
}

func TestExamplesArithmetic(t *testing.T) {
	third, e := Make(most, 3)
	three, f := Make(3, most)
	if p, g := Mul(third, three); e != api.OK || f != api.OK || g != api.OK || p != (api.Frac{Num: 1, Den: 1}) {
		t.Error(third, three, p, e, f, g)
	}
	if r, e := Floor(api.Frac{Num: -7, Den: 2}); r != -4 || e != api.OK {
		t.Error(r, e)
	}
}
