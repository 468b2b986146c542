package geoid

import (
	"math"
	"math/big"
	"testing"

	"fringe/api"
)

func TestP31At(t *testing.T) {
	flat, odd, least := api.Globe{A: 6, B: 3}, api.Globe{A: 25, B: 13}, api.Globe{A: 1, B: 1}
	for _, c := range []struct {
		g          api.Globe
		s, t, want string
	}{
		{flat, "1/2", "0", "18/5 0 12/5"}, {flat, "0", "1", "0 6 0"}, {flat, "1", "0", "0 0 3"}, {flat, "-1", "0", "0 0 -3"},
		{flat, "1", "20", "0 0 3"}, {flat, "-1", "-7/11", "0 0 -3"}, {flat, "0", "0", "6 0 0"}, {flat, "0", "-1", "0 -6 0"},
		{odd, "-1/2", "-1/2", "9 -12 -52/5"}, {odd, "0", "3", "-20 15 0"}, {odd, "2/3", "0", "125/13 0 12"},
		{least, "0", "20", "-399/401 40/401 0"}, {least, "0", "-1/20", "399/401 -40/401 0"},
		{least, "1/20", "19/20", "15561/305161 303240/305161 40/401"},
		{api.Globe{A: 1000, B: 1000}, "1/3", "3", "-640 480 600"},
	} {
		if p, e := At(c.g, read(t, c.s), read(t, c.t)); p != vecOf(t, c.want) || e != api.OK {
			t.Error(c, p, e)
		}
	}
}

// outside are valid fractions that are no parameters.
var outside = []api.Frac{
	{Num: 1, Den: 21}, {Num: -1, Den: 21}, {Num: 21, Den: 1}, {Num: -21, Den: 1}, {Num: 20, Den: 21}, {Num: 21, Den: 20}, {Num: -21, Den: 20}, {Num: most, Den: 1}, {Num: -most, Den: 1}, {Num: 1, Den: most},
}

func TestP31AtErrors(t *testing.T) {
	good := api.Frac{Num: 1, Den: 2}
	for _, u := range append(append([]api.Frac{}, bad...), outside...) {
		for _, c := range [][2]api.Frac{{u, good}, {good, u}, {u, u}} {
			for _, g := range goodGlobes {
				if p, e := At(g, c[0], c[1]); p != (api.Vec{}) || e != api.ErrBad {
					t.Error(g, c, p, e)
				}
			}
			for _, g := range badGlobes {
				if p, e := At(g, c[0], c[1]); p != (api.Vec{}) || e != api.ErrArg {
					t.Error(g, c, p, e)
				}
			}
		}
	}
	for _, g := range badGlobes {
		if p, e := At(g, good, good); p != (api.Vec{}) || e != api.ErrArg {
			t.Error(g, p, e)
		}
	}
	for _, s := range parameters() {
		steep := exact(s).Cmp(big.NewRat(-1, 1)) >= 0 && exact(s).Cmp(big.NewRat(1, 1)) <= 0
		p, e := At(goodGlobes[1], s, good)
		if steep && e != api.OK || !steep && (p != (api.Vec{}) || e != api.ErrBad) {
			t.Error(s, p, e)
		}
		if _, e := At(goodGlobes[1], good, s); e != api.OK {
			t.Error("t", s, e)
		}
	}
}

// TestP31P33P35Places takes all parameters of latitudes with some of those around, and the other way round.
func TestP31P33P35Places(t *testing.T) {
	low, all := steep(), parameters()
	if len(low) != 257 || len(all) != 511 {
		t.Fatal(len(low), len(all))
	}
	d := dice(5)
	for i, s := range low {
		for k, u := range all {
			if i%16 != 0 && (i+k)%31 != 0 {
				continue
			}
			g := d.globe()
			want := wantAt(g, s, u)
			p, e := At(g, s, u)
			if p != want || e != api.OK {
				t.Error("At", g, s, u, p, e, want)
			}
			if on, e := On(g, p); !on || e != api.OK {
				t.Error("On", g, s, u, on, e)
			}
			around := u
			if s.Den == 1 && s.Num != 0 {
				around = api.Frac{Num: 0, Den: 1}
			}
			if a, b, e := Params(g, want); a != s || b != around || e != api.OK {
				t.Error("Params", g, s, u, a, b, e)
			}
		}
	}
}

func TestP33None(t *testing.T) {
	flat, round := api.Globe{A: 6, B: 3}, api.Globe{A: 1, B: 1}
	for _, c := range []struct {
		name string
		g    api.Globe
		p    string
	}{
		{"t would be endless", flat, "-6 0 0"},
		{"t would be endless, to the north", flat, "-18/5 0 12/5"},
		{"inside", flat, "0 0 2"}, {"outside", flat, "6 0 1/100"}, {"the center", flat, "0 0 0"}, {"far outside", flat, "600 600 600"},
		{"s would be no fraction", round, "2/3 2/3 1/3"}, {"s would be no fraction, either", round, "2/7 3/7 6/7"}, {"to the south", round, "1/3 -2/3 -2/3"},
	} {
		if s, u, e := Params(c.g, vecOf(t, c.p)); s != (api.Frac{}) || u != (api.Frac{}) || e != api.ErrNone {
			t.Error(c, s, u, e)
		}
	}
}

// TestP33NoParameters has places whose parameters would be no parameters, because a number is too great.
func TestP33NoParameters(t *testing.T) {
	good := api.Frac{Num: 2, Den: 3}
	zero := api.Frac{Num: 0, Den: 1}
	many := 0
	for _, g := range goodGlobes {
		for _, u := range []api.Frac{{Num: 1, Den: 21}, {Num: -1, Den: 21}, {Num: 20, Den: 21}, {Num: -13, Den: 21}, {Num: 22, Den: 23}, {Num: 1, Den: 31000}, {Num: -21000, Den: 21001}} {
			for _, c := range [][2]api.Frac{{u, zero}, {u, {Num: 1, Den: 1}}, {zero, u}, {u, u}, {u, good}, {good, u}} {
				p := wantAt(g, c[0], c[1])
				if on, e := On(g, p); !on || e != api.OK {
					// The place of two long parameters is out of range.
					continue
				}
				many++
				if s, v, e := Params(g, p); s != (api.Frac{}) || v != (api.Frac{}) || e != api.ErrNone {
					t.Error(g, c, s, v, e)
				}
			}
		}
		for _, u := range []api.Frac{{Num: 21, Den: 1}, {Num: -21, Den: 1}, {Num: 21, Den: 20}, {Num: 31000, Den: 1}, {Num: -31000, Den: 1}} {
			p := wantAt(g, zero, u)
			if s, v, e := Params(g, p); s != (api.Frac{}) || v != (api.Frac{}) || e != api.ErrNone {
				t.Error(g, u, s, v, e)
			}
		}
	}
	if many < 200 {
		t.Error("too few:", many)
	}
}

func TestP33OutOfRange(t *testing.T) {
	for _, c := range []struct {
		g api.Globe
		p string
	}{
		{api.Globe{A: 2, B: 1}, "1/" + e18 + " 0 1"}, {api.Globe{A: 1, B: 2}, "1 0 1/" + e18}, {api.Globe{A: 2, B: 1}, "0 1/" + e18 + " 1"},
		{api.Globe{A: 1, B: 1}, "1000000001 0 0"}, {api.Globe{A: 1, B: 1}, "1000000000 1 0"}, {api.Globe{A: 1, B: 1}, "0 1 -1000000000"},
	} {
		if s, u, e := Params(c.g, vecOf(t, c.p)); s != (api.Frac{}) || u != (api.Frac{}) || e != api.ErrRange {
			t.Error(c, s, u, e)
		}
	}
}

// TestP33Large has points with numbers near the ends of the ranges, of which the parameters are looked for.
func TestP33Large(t *testing.T) {
	round := api.Globe{A: 1, B: 1}
	many := 0
	for b := int64(22300); b < 22361; b++ {
		for _, a := range []int64{1, 2, b / 2, b - 2, b - 1} {
			u := api.Frac{Num: a, Den: b}
			if !valid(u) || a*a+b*b > 1000000000 {
				continue
			}
			many++
			p := wantAt(round, u, api.Frac{Num: 0, Den: 1})
			if s, v, e := Params(round, p); s != (api.Frac{}) || v != (api.Frac{}) || e != api.ErrNone {
				t.Error(u, s, v, e)
			}
			p = wantAt(round, api.Frac{Num: 0, Den: 1}, u)
			if s, v, e := Params(round, p); s != (api.Frac{}) || v != (api.Frac{}) || e != api.ErrNone {
				t.Error(u, s, v, e)
			}
		}
	}
	if many < 100 {
		t.Error("too few:", many)
	}
}

// TestR1Order has all errors of a call together, and then one after the other taken away.
func TestR1Order(t *testing.T) {
	big := api.Frac{Num: most, Den: 1}
	far := api.Vec{X: big, Y: big, Z: big}
	check := func(g api.Globe, p, q api.Vec, want api.Errno) {
		t.Helper()
		if q == far {
			if on, e := On(g, p); on || e != want {
				t.Error("On", g, p, on, e, want)
			}
			if sign, e := Inside(g, p); sign != 0 || e != want {
				t.Error("Inside", g, p, sign, e, want)
			}
			if s, u, e := Params(g, p); s != (api.Frac{}) || u != (api.Frac{}) || e != want {
				t.Error("Params", g, p, s, u, e, want)
			}
			if n, e := Normal(g, p); e != want && !(want == api.ErrRange && e == api.OK) || e != api.OK && n != (api.Vec{}) {
				t.Error("Normal", g, p, n, e, want)
			}
		}
		if sign, e := Side(g, p, q); sign != 0 || e != want {
			t.Error("Side", g, p, q, sign, e, want)
		}
	}
	good := api.Globe{A: 7, B: 11}
	for _, a := range bad {
		for k := range 3 {
			spoilt := with(far, k, a)
			for _, g := range badGlobes {
				check(g, spoilt, far, api.ErrArg)
				check(g, far, spoilt, api.ErrArg)
				check(g, far, far, api.ErrArg)
			}
			check(good, spoilt, far, api.ErrBad)
			check(good, far, spoilt, api.ErrBad)
			check(good, spoilt, spoilt, api.ErrBad)
		}
	}
	check(good, far, far, api.ErrRange)
	check(good, api.Vec{}, far, api.ErrBad)
}

// TestR2Twice calls functions again, in another order: nothing is kept from call to call.
func TestR2Twice(t *testing.T) {
	d := dice(6)
	low, all := steep(), parameters()
	for range 300 {
		g, h := d.globe(), d.globe()
		s, u := d.oneOf(low), d.oneOf(all)
		for _, globe := range []api.Globe{g, h, g} {
			p, e := At(globe, s, u)
			if p != wantAt(globe, s, u) || e != api.OK {
				t.Error("At", globe, s, u, p, e)
			}
			q := d.vec(5)
			want, code := wantSide(globe, p, q)
			if sign, e := Side(globe, p, q); sign != want || e != code {
				t.Error("Side", globe, p, q, sign, e)
			}
			normal, code := wantNormal(globe, q)
			if n, e := Normal(globe, q); n != normal || e != code {
				t.Error("Normal", globe, q, n, e)
			}
		}
	}
}

// TestR7NeverPanics calls everything with numbers of any size, valid or not, of which all results are zero values if there is an error.
func TestR7NeverPanics(t *testing.T) {
	numbers := []int64{math.MinInt64, math.MinInt64 + 1, -most - 1, -most, -1000000001, -1000000000, -21, -20, -2, -1, 0, 1, 2, 3, 20, 21, 999999999, 1000000000, 1000000001, most, most + 1, math.MaxInt64}
	axes := []int{math.MinInt, -1, 0, 1, 2, 3, 999, 1000, 1001, math.MaxInt}
	d := dice(7)
	number := func() int64 { return numbers[d.next()%uint64(len(numbers))] }
	one := func() api.Frac {
		for {
			if a := (api.Frac{Num: number(), Den: number()}); d.next()%40 == 0 || valid(a) {
				return a
			}
		}
	}
	any := func() api.Vec { return api.Vec{X: one(), Y: one(), Z: one()} }
	for range 20000 {
		g := api.Globe{A: axes[d.next()%uint64(len(axes))], B: axes[d.next()%uint64(len(axes))]}
		p, q, s, u := any(), any(), one(), one()
		Check(g)
		if v, e := At(g, s, u); e != api.OK && v != (api.Vec{}) {
			t.Error("At", g, s, u, v, e)
		}
		if on, e := On(g, p); e != api.OK && on {
			t.Error("On", g, p, on, e)
		}
		if sign, e := Inside(g, p); e != api.OK && sign != 0 {
			t.Error("Inside", g, p, sign, e)
		}
		if a, b, e := Params(g, p); e != api.OK && (a != (api.Frac{}) || b != (api.Frac{})) {
			t.Error("Params", g, p, a, b, e)
		}
		if n, e := Normal(g, p); e != api.OK && n != (api.Vec{}) {
			t.Error("Normal", g, p, n, e)
		}
		if sign, e := Side(g, p, q); e != api.OK && sign != 0 {
			t.Error("Side", g, p, q, sign, e)
		}
	}
}
