package sine

import (
	"math"
	"math/big"
	"testing"

	"fringe/api"
)

func TestP52Examples(t *testing.T) {
	const low, high = -limit, limit
	for _, c := range []struct {
		name string
		do   func(a, b api.Span) (api.Span, api.Errno)
		a, b api.Span
		want api.Span
		e    api.Errno
	}{
		{"Mul", Mul, api.Span{Lo: 333333, Hi: 333334}, api.Span{Lo: -333334, Hi: -333333}, api.Span{Lo: -111112, Hi: -111110}, api.OK},
		{"Mul", Mul, api.Span{Lo: -2000000, Hi: 3000000}, api.Span{Lo: -5000000, Hi: 7000000}, api.Span{Lo: -15000000, Hi: 21000000}, api.OK},
		{"Mul", Mul, api.Span{Lo: -3000000, Hi: 2000000}, api.Span{Lo: -7000000, Hi: 5000000}, api.Span{Lo: -15000000, Hi: 21000000}, api.OK},
		{"Mul", Mul, api.Span{Lo: -3000000, Hi: -2000000}, api.Span{Lo: -7000000, Hi: -5000000}, api.Span{Lo: 10000000, Hi: 21000000}, api.OK},
		{"Mul", Mul, api.Span{Lo: -3000000, Hi: -2000000}, api.Span{Lo: 5000000, Hi: 7000000}, api.Span{Lo: -21000000, Hi: -10000000}, api.OK},
		{"Mul", Mul, api.Span{Lo: 1, Hi: 1}, api.Span{Lo: 1, Hi: 1}, api.Span{Lo: 0, Hi: 1}, api.OK},
		{"Mul", Mul, api.Span{Lo: -1, Hi: -1}, api.Span{Lo: 1, Hi: 1}, api.Span{Lo: -1, Hi: 0}, api.OK},
		{"Mul", Mul, api.Span{Lo: 1000, Hi: 1000}, api.Span{Lo: 1000, Hi: 1000}, api.Span{Lo: 1, Hi: 1}, api.OK},
		{"Mul", Mul, api.Span{Lo: -1000, Hi: -1000}, api.Span{Lo: 1000, Hi: 1000}, api.Span{Lo: -1, Hi: -1}, api.OK},
		{"Mul", Mul, api.Span{}, api.Span{Lo: low, Hi: high}, api.Span{}, api.OK},
		{"Mul", Mul, api.Span{Lo: 1000000, Hi: 1000000}, api.Span{Lo: low, Hi: high}, api.Span{Lo: low, Hi: high}, api.OK},
		{"Mul", Mul, api.Span{Lo: 1000001, Hi: 1000001}, api.Span{Lo: high, Hi: high}, api.Span{}, api.ErrRange},
		{"Mul", Mul, api.Span{Lo: -1000001, Hi: -1000001}, api.Span{Lo: high, Hi: high}, api.Span{}, api.ErrRange},
		{"Mul", Mul, api.Span{Lo: high, Hi: high}, api.Span{Lo: high, Hi: high}, api.Span{}, api.ErrRange},
		{"Mul", Mul, api.Span{Lo: low, Hi: low}, api.Span{Lo: high, Hi: high}, api.Span{}, api.ErrRange},
		{"Mul", Mul, api.Span{Lo: low, Hi: high}, api.Span{Lo: low, Hi: high}, api.Span{}, api.ErrRange},
		{"Mul", Mul, api.Span{Lo: 2000000000, Hi: 2000000000}, api.Span{Lo: 1500000, Hi: 1500000}, api.Span{Lo: high, Hi: high}, api.OK},
		{"Mul", Mul, api.Span{Lo: -2000000000, Hi: 0}, api.Span{Lo: 1, Hi: 1500000}, api.Span{Lo: low, Hi: 0}, api.OK},
		// the greatest square that is in the range, and the one after it
		{"Mul", Mul, api.Span{Lo: 54772255, Hi: 54772255}, api.Span{Lo: 54772255, Hi: 54772255}, api.Span{Lo: 2999999917, Hi: 2999999918}, api.OK},
		{"Mul", Mul, api.Span{Lo: 54772256, Hi: 54772256}, api.Span{Lo: 54772256, Hi: 54772256}, api.Span{}, api.ErrRange},
		{"Mul", Mul, api.Span{Lo: 2999999999, Hi: 2999999999}, api.Span{Lo: 1000000, Hi: 1000000}, api.Span{Lo: 2999999999, Hi: 2999999999}, api.OK},
		{"Mul", Mul, api.Span{Lo: 1000003, Hi: 1000003}, api.Span{Lo: 2999991000, Hi: 2999991000}, api.Span{Lo: 2999999999, Hi: high}, api.OK},
		{"Add", Add, api.Span{Lo: -1, Hi: 2}, api.Span{Lo: 10, Hi: 20}, api.Span{Lo: 9, Hi: 22}, api.OK},
		{"Add", Add, api.Span{Lo: 2000000000, Hi: 2000000000}, api.Span{Lo: 1000000000, Hi: 1000000000}, api.Span{Lo: high, Hi: high}, api.OK},
		{"Add", Add, api.Span{Lo: 2000000000, Hi: 2000000000}, api.Span{Lo: 1000000000, Hi: 1000000001}, api.Span{}, api.ErrRange},
		{"Add", Add, api.Span{Lo: -2000000000, Hi: 0}, api.Span{Lo: -1000000000, Hi: 0}, api.Span{Lo: low, Hi: 0}, api.OK},
		{"Add", Add, api.Span{Lo: -2000000000, Hi: 0}, api.Span{Lo: -1000000001, Hi: 0}, api.Span{}, api.ErrRange},
		{"Add", Add, api.Span{Lo: low, Hi: high}, api.Span{Lo: low, Hi: high}, api.Span{}, api.ErrRange},
		{"Sub", Sub, api.Span{Lo: -1, Hi: 2}, api.Span{Lo: 10, Hi: 20}, api.Span{Lo: -21, Hi: -8}, api.OK},
		{"Sub", Sub, api.Span{Lo: -1, Hi: 2}, api.Span{Lo: -1, Hi: 2}, api.Span{Lo: -3, Hi: 3}, api.OK},
		{"Sub", Sub, api.Span{}, api.Span{Lo: low, Hi: high}, api.Span{Lo: low, Hi: high}, api.OK},
		{"Sub", Sub, api.Span{Lo: 1, Hi: 1}, api.Span{Lo: low, Hi: high}, api.Span{}, api.ErrRange},
		{"Sub", Sub, api.Span{Lo: -1, Hi: 0}, api.Span{Lo: 0, Hi: high}, api.Span{}, api.ErrRange},
		{"Sub", Sub, api.Span{Lo: high, Hi: high}, api.Span{Lo: high, Hi: high}, api.Span{}, api.OK},
	} {
		if a, e := c.do(c.a, c.b); a != c.want || e != c.e {
			t.Error(c.name, c.a, c.b, a, e, c.want, c.e)
		}
	}
}

// TestP52Anywhere compares with big numbers: all pairs with ends at edges, and others.
func TestP52Anywhere(t *testing.T) {
	many := map[api.Errno]int{}
	check := func(a, b api.Span) {
		want, code := wantWorks(a, b)
		if l, e := works(a, b); l != want || e != code {
			t.Error(a, b, l, e, want, code)
		}
		for _, e := range code {
			many[e]++
		}
	}
	l := spans()
	for k, a := range l {
		for j := k % 3; j < len(l); j += 3 {
			check(a, l[j])
		}
	}
	d := dice(3)
	for range 30000 {
		check(d.span(), d.span())
	}
	if many[api.OK] < 30000 || many[api.ErrRange] < 10000 {
		t.Error("one-sided", many)
	}
}

// TestP52BadFirst has enclosures that are not valid, also where the result would be out of range, or valid.
func TestP52BadFirst(t *testing.T) {
	good := []api.Span{{}, {Lo: 1, Hi: 1}, {Lo: -1, Hi: 1}, {Lo: 1000000, Hi: 1000000}, {Lo: limit, Hi: limit}, {Lo: -limit, Hi: -limit}, {Lo: -limit, Hi: limit}}
	for _, a := range badSpans {
		for _, b := range append(good, badSpans...) {
			for _, c := range [][2]api.Span{{a, b}, {b, a}} {
				if l, e := works(c[0], c[1]); l != [3]api.Span{} || e != [3]api.Errno{api.ErrBad, api.ErrBad, api.ErrBad} {
					t.Error(c, l, e)
				}
			}
		}
	}
}

func TestP53Of(t *testing.T) {
	for _, c := range []struct {
		f    string
		want api.Span
		e    api.Errno
	}{
		{"1/3", api.Span{Lo: 333333, Hi: 333334}, api.OK},
		{"-1/3", api.Span{Lo: -333334, Hi: -333333}, api.OK},
		{"0", api.Span{}, api.OK},
		{"1", api.Span{Lo: 1000000, Hi: 1000000}, api.OK},
		{"-1", api.Span{Lo: -1000000, Hi: -1000000}, api.OK},
		{"1/64", api.Span{Lo: 15625, Hi: 15625}, api.OK},
		{"-7/64", api.Span{Lo: -109375, Hi: -109375}, api.OK},
		{"1/128", api.Span{Lo: 7812, Hi: 7813}, api.OK},
		{"1/1000000", api.Span{Lo: 1, Hi: 1}, api.OK},
		{"-1/1000000", api.Span{Lo: -1, Hi: -1}, api.OK},
		{"1/1000001", api.Span{Lo: 0, Hi: 1}, api.OK},
		{"1/1000000000000000000", api.Span{Lo: 0, Hi: 1}, api.OK},
		{"-1/1000000000000000000", api.Span{Lo: -1, Hi: 0}, api.OK},
		{"999999999999999999/1000000000000000000", api.Span{Lo: 999999, Hi: 1000000}, api.OK},
		{"-999999999999999999/1000000000000000000", api.Span{Lo: -1000000, Hi: -999999}, api.OK},
		{"1000000000000000000/999999999999999999", api.Span{Lo: 1000000, Hi: 1000001}, api.OK},
		{"3000", api.Span{Lo: limit, Hi: limit}, api.OK},
		{"-3000", api.Span{Lo: -limit, Hi: -limit}, api.OK},
		{"2999999999/1000000", api.Span{Lo: limit - 1, Hi: limit - 1}, api.OK},
		// 3000 but for 1 / 333333333333333
		{"999999999999998999/333333333333333", api.Span{Lo: limit - 1, Hi: limit}, api.OK},
		{"-999999999999998999/333333333333333", api.Span{Lo: -limit, Hi: -limit + 1}, api.OK},
		{"999999999999999001/333333333333333", api.Span{}, api.ErrRange},
		{"-999999999999999001/333333333333333", api.Span{}, api.ErrRange},
		{"3000000001/1000000", api.Span{}, api.ErrRange},
		{"-3000000001/1000000", api.Span{}, api.ErrRange},
		{"3001", api.Span{}, api.ErrRange},
		{"-3001", api.Span{}, api.ErrRange},
		{"1000000000000000000", api.Span{}, api.ErrRange},
		{"-1000000000000000000", api.Span{}, api.ErrRange},
		{"1000000000000000000/3", api.Span{}, api.ErrRange},
		// 10^6 times these is less than 3 * 10^9 modulo 2^64
		{"18446744073710", api.Span{}, api.ErrRange},
		{"-18446744073710", api.Span{}, api.ErrRange},
	} {
		if a, e := Of(fracOf(c.f)); a != c.want || e != c.e {
			t.Error(c.f, a, e, c.want, c.e)
		}
	}
}

// TestP53Anywhere compares with big numbers: fractions of any size, and enclosures around them and elsewhere.
func TestP53Anywhere(t *testing.T) {
	d := dice(4)
	codes, answers := map[api.Errno]int{}, map[bool]int{}
	for range 30000 {
		f := d.frac()
		m := million(exact(f))
		want, code := outward(m, m)
		codes[code]++
		if a, e := Of(f); a != want || e != code {
			t.Error(f, a, e, want, code)
		}
		l := []api.Span{d.span(), d.span(), {Lo: -limit, Hi: limit}}
		if code == api.OK {
			near := api.Span{Lo: want.Lo - 1 + d.below(3), Hi: want.Hi - 1 + d.below(3)}
			l = append(l, want, near, api.Span{Lo: want.Lo, Hi: want.Lo}, api.Span{Lo: want.Hi, Hi: want.Hi}, api.Span{Lo: want.Lo, Hi: limit}, api.Span{Lo: -limit, Hi: want.Hi})
		}
		for _, a := range l {
			if !wantSpan(a) {
				continue
			}
			answer := wantHas(a, exact(f))
			answers[answer]++
			if has, e := Has(a, f); has != answer || e != api.OK {
				t.Error(a, f, has, e, answer)
			}
		}
	}
	if codes[api.OK] < 5000 || codes[api.ErrRange] < 5000 || answers[true] < 5000 || answers[false] < 5000 {
		t.Error("one-sided", codes, answers)
	}
}

func TestP53Has(t *testing.T) {
	for _, c := range []struct {
		a    api.Span
		f    string
		want bool
	}{
		{api.Span{Lo: 333333, Hi: 333334}, "1/3", true},
		{api.Span{Lo: 333333, Hi: 333333}, "1/3", false},
		{api.Span{Lo: 333334, Hi: 333334}, "1/3", false},
		{api.Span{Lo: 333334, Hi: 333335}, "1/3", false},
		{api.Span{Lo: -333334, Hi: -333333}, "-1/3", true},
		{api.Span{Lo: -333333, Hi: 0}, "-1/3", false},
		{api.Span{Lo: 500000, Hi: 500000}, "1/2", true},
		{api.Span{Lo: 500001, Hi: 500001}, "1/2", false},
		{api.Span{Lo: 499999, Hi: 499999}, "1/2", false},
		{api.Span{}, "0", true},
		{api.Span{}, "1/1000000000000000000", false},
		{api.Span{}, "-1/1000000000000000000", false},
		{api.Span{Lo: 0, Hi: 1}, "1/1000000000000000000", true},
		{api.Span{Lo: -1, Hi: 0}, "1/1000000000000000000", false},
		{api.Span{Lo: -limit, Hi: limit}, "3000", true},
		{api.Span{Lo: -limit, Hi: limit}, "-3000", true},
		{api.Span{Lo: -limit, Hi: limit}, "999999999999998999/333333333333333", true},
		{api.Span{Lo: -limit, Hi: limit}, "-999999999999998999/333333333333333", true},
		{api.Span{Lo: -limit, Hi: limit}, "999999999999999001/333333333333333", false},
		{api.Span{Lo: -limit, Hi: limit}, "-999999999999999001/333333333333333", false},
		{api.Span{Lo: -limit, Hi: limit}, "3001", false},
		{api.Span{Lo: -limit, Hi: limit}, "1000000000000000000", false},
		{api.Span{Lo: -limit, Hi: limit}, "-1000000000000000000", false},
		{api.Span{Lo: 0, Hi: limit}, "18446744073710", false},
	} {
		if has, e := Has(c.a, fracOf(c.f)); has != c.want || e != api.OK {
			t.Error(c, has, e)
		}
	}
}

func TestP53Bad(t *testing.T) {
	good := []api.Span{{}, {Lo: -limit, Hi: limit}, {Lo: 1, Hi: 2}}
	for _, f := range badFracs {
		if a, e := Of(f); a != (api.Span{}) || e != api.ErrBad {
			t.Error("Of", f, a, e)
		}
		for _, a := range append(good, badSpans...) {
			if has, e := Has(a, f); has || e != api.ErrBad {
				t.Error("Has", a, f, has, e)
			}
		}
	}
	for _, a := range badSpans {
		for _, s := range []string{"0", "1", "-1/3", "2999", "3000", "4000", "1000000000000000000"} {
			if has, e := Has(a, fracOf(s)); has || e != api.ErrBad {
				t.Error("Has", a, s, has, e)
			}
		}
	}
}

func TestP54Sign(t *testing.T) {
	many := map[int]int{}
	for _, a := range spans() {
		want, code := 0, api.ErrOpen
		switch {
		case a.Lo > 0:
			want, code = 1, api.OK
		case a.Hi < 0:
			want, code = -1, api.OK
		case a.Lo == 0 && a.Hi == 0:
			code = api.OK
		}
		many[want]++
		if s, e := Sign(a); s != want || e != code {
			t.Error(a, s, e, want, code)
		}
	}
	if len(many) != 3 {
		t.Error("one-sided", many)
	}
	for _, c := range []struct {
		a    api.Span
		want int
		e    api.Errno
	}{
		{api.Span{Lo: -111112, Hi: -111110}, -1, api.OK},
		{api.Span{Lo: -1, Hi: 2}, 0, api.ErrOpen},
		{api.Span{Lo: 0, Hi: 1}, 0, api.ErrOpen},
		{api.Span{Lo: -1, Hi: 0}, 0, api.ErrOpen},
		{api.Span{}, 0, api.OK},
	} {
		if s, e := Sign(c.a); s != c.want || e != c.e {
			t.Error(c, s, e)
		}
	}
	for _, a := range badSpans {
		if s, e := Sign(a); s != 0 || e != api.ErrBad {
			t.Error(a, s, e)
		}
	}
}

// TestP55Inside takes numbers from two enclosures: added, subtracted and multiplied they are in the results.
func TestP55Inside(t *testing.T) {
	d := dice(5)
	many := 0
	for range 30000 {
		a, b := d.span(), d.span()
		x, y := d.inside(a), d.inside(b)
		if !wantHas(a, x) || !wantHas(b, y) {
			t.Fatal(a, b, x, y)
		}
		z := [3]*big.Rat{new(big.Rat).Add(x, y), new(big.Rat).Sub(x, y), new(big.Rat).Mul(x, y)}
		l, e := works(a, b)
		for k := range l {
			if e[k] == api.OK && !wantHas(l[k], z[k]) {
				t.Error(k, a, b, x, y, l[k])
			}
			if e[k] == api.OK {
				many++
			}
		}
	}
	if many < 30000 {
		t.Error("one-sided", many)
	}
}

// TestP55OfWorks has the enclosures of two fractions, which have what the fractions make.
func TestP55OfWorks(t *testing.T) {
	d := dice(6)
	many := 0
	for range 30000 {
		f, g := d.frac(), d.frac()
		a, e := Of(f)
		b, h := Of(g)
		if e != api.OK || h != api.OK {
			continue
		}
		l, codes := works(a, b)
		x, y := exact(f), exact(g)
		for k, z := range [3]*big.Rat{new(big.Rat).Add(x, y), new(big.Rat).Sub(x, y), new(big.Rat).Mul(x, y)} {
			if codes[k] != api.OK {
				continue
			}
			many++
			if !wantHas(l[k], z) {
				t.Error(k, f, g, l[k])
			}
		}
	}
	if many < 5000 {
		t.Error("one-sided", many)
	}
}

// TestR7NeverPanics calls everything with numbers of any size; R1 and the zero values that come with an error are compared, too.
func TestR7NeverPanics(t *testing.T) {
	numbers := append([]int64{math.MinInt64, math.MinInt64 + 1, -most - 1, -most, -limit - 1, limit + 1, most, most + 1, math.MaxInt64 - 1, math.MaxInt64}, edges...)
	var l []api.Span
	for _, lo := range numbers {
		for _, hi := range numbers {
			a := api.Span{Lo: lo, Hi: hi}
			l = append(l, a)
			if s, e := Sign(a); e != api.OK && s != 0 || (e == api.ErrBad) == wantSpan(a) {
				t.Error("Sign", a, s, e)
			}
			Of(api.Frac{Num: lo, Den: hi})
			for _, k := range []int{int(lo), -7, 0, 5} {
				Cos(k, int(hi))
				Sin(k, int(hi))
			}
		}
	}
	for k, a := range l {
		for j := k % 11; j < len(l); j += 11 {
			b := l[j]
			want, code := wantWorks(a, b)
			if l, e := works(a, b); l != want || e != code {
				t.Error(a, b, l, e)
			}
			f := api.Frac{Num: b.Lo, Den: b.Hi}
			bad := !wantSpan(a) || !wantFrac(f)
			if has, e := Has(a, f); bad && (has || e != api.ErrBad) || !bad && (e != api.OK || has != wantHas(a, exact(f))) {
				t.Error("Has", a, f, has, e)
			}
		}
	}
}
