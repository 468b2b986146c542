package sine

import (
	"math"
	"math/big"
	"testing"

	"fringe/api"
)

func TestP51Examples(t *testing.T) {
	for _, c := range []struct {
		k, n     int
		cos, sin api.Span
	}{
		{1, 8, api.Span{Lo: 707106, Hi: 707107}, api.Span{Lo: 707106, Hi: 707107}},
		{1, 6, api.Span{Lo: 500000, Hi: 500000}, api.Span{Lo: 866025, Hi: 866026}},
		{3, 4, api.Span{}, api.Span{Lo: -1000000, Hi: -1000000}},
		{0, 1, api.Span{Lo: 1000000, Hi: 1000000}, api.Span{}},
		{1, 1, api.Span{Lo: 1000000, Hi: 1000000}, api.Span{}},
		{1, 2, api.Span{Lo: -1000000, Hi: -1000000}, api.Span{}},
		{1, 4, api.Span{}, api.Span{Lo: 1000000, Hi: 1000000}},
		{1, 3, api.Span{Lo: -500000, Hi: -500000}, api.Span{Lo: 866025, Hi: 866026}},
		{2, 3, api.Span{Lo: -500000, Hi: -500000}, api.Span{Lo: -866026, Hi: -866025}},
		{1, 12, api.Span{Lo: 866025, Hi: 866026}, api.Span{Lo: 500000, Hi: 500000}},
		{-1, 12, api.Span{Lo: 866025, Hi: 866026}, api.Span{Lo: -500000, Hi: -500000}},
		{5, 12, api.Span{Lo: -866026, Hi: -866025}, api.Span{Lo: 500000, Hi: 500000}},
		{7, 12, api.Span{Lo: -866026, Hi: -866025}, api.Span{Lo: -500000, Hi: -500000}},
		{1, 720, api.Span{Lo: 999961, Hi: 999962}, api.Span{Lo: 8726, Hi: 8727}},
		{-1, 720, api.Span{Lo: 999961, Hi: 999962}, api.Span{Lo: -8727, Hi: -8726}},
		{179, 720, api.Span{Lo: 8726, Hi: 8727}, api.Span{Lo: 999961, Hi: 999962}},
	} {
		if a, e := Cos(c.k, c.n); a != c.cos || e != api.OK {
			t.Error("Cos", c, a, e)
		}
		if a, e := Sin(c.k, c.n); a != c.sin || e != api.OK {
			t.Error("Sin", c, a, e)
		}
	}
}

// TestP51P55All compares all cosines and sines with those of 320 bits, and has the widths of their enclosures.
func TestP51P55All(t *testing.T) {
	for n := 1; n <= 720; n++ {
		for k, p := range circle(n) {
			for name, c := range map[string]struct {
				do   func(k, n int) (api.Span, api.Errno)
				x    *big.Int
				late int // twelfths of a turn by which it comes after the cosine
			}{"Cos": {Cos, p[0], 0}, "Sin": {Sin, p[1], 3}} {
				a, e := c.do(k, n)
				if a != enclosed(c.x) || e != api.OK {
					t.Error(name, k, n, a, e, enclosed(c.x))
				}
				twelfths := 12*k - c.late*n + 12*n
				same := twelfths%n == 0 && twelfths/n%6 != 1 && twelfths/n%6 != 5
				if same && a.Hi != a.Lo || !same && a.Hi != a.Lo+1 {
					t.Error("width", name, k, n, a)
				}
			}
		}
	}
}

// TestP51Slack has the errors of series within their bound, in parts of 10^18.
func TestP51Slack(t *testing.T) {
	for n := 2; n <= 720; n += 1 + n%5 {
		first := at(new(big.Int).Quo(turn(), big.NewInt(int64(4*n))))
		for a, p := 1, first; a < n; a, p = a+1, p.onward(first) {
			x, slack := series(a, n)
			parts := new(big.Int).Mul(p[0], big.NewInt(1000000000000000000))
			parts.Rsh(parts, fine)
			if off := parts.Int64() - int64(x); slack != 10 || off < -9 || off > 8 {
				t.Error(a, n, x, slack, off)
			}
		}
	}
}

// TestP51AnyPart has parts that are less than 0 or more than a turn, up to the ends of their type.
func TestP51AnyPart(t *testing.T) {
	parts := []int{math.MinInt, math.MinInt + 1, -1 << 62, -1<<62 - 1, math.MinInt/4 - 1, math.MaxInt/4 + 1, 1 << 61, 1<<62 + 1, math.MaxInt - 1, math.MaxInt}
	d := dice(1)
	for range 20 {
		parts = append(parts, int(d.next()), int(d.next()>>(1+d.next()%62)), -int(d.next()>>(1+d.next()%62)))
	}
	for n := 1; n <= 720; n += 1 + int(d.below(6)) {
		l := circle(n)
		near := []int{-n - 1, -n, -n + 1, -1, n, n + 1, 2*n - 1, 2 * n, 5*n + 7, -5*n - 7}
		for _, k := range append(near, parts...) {
			m := new(big.Int).Mod(big.NewInt(int64(k)), big.NewInt(int64(n))).Int64()
			a, e := Cos(k, n)
			b, f := Sin(k, n)
			if a != enclosed(l[m][0]) || b != enclosed(l[m][1]) || e != api.OK || f != api.OK {
				t.Error(k, n, a, b, e, f)
			}
		}
	}
}

func TestP51PartsOutOfRange(t *testing.T) {
	for _, n := range []int{math.MinInt, math.MinInt + 1, -720, -1, 0, 721, 722, 1440, 1 << 32, 1<<32 + 1, math.MaxInt} {
		for _, k := range []int{math.MinInt, -1, 0, 1, n, math.MaxInt} {
			if a, e := Cos(k, n); a != (api.Span{}) || e != api.ErrArg {
				t.Error("Cos", k, n, a, e)
			}
			if a, e := Sin(k, n); a != (api.Span{}) || e != api.ErrArg {
				t.Error("Sin", k, n, a, e)
			}
		}
	}
}

// TestP55Squares has the squares of a cosine and a sine, which have 1 if they are added.
func TestP55Squares(t *testing.T) {
	for n := 1; n <= 720; n++ {
		for k := range n {
			c, s := mustSpan(t)(Cos(k, n)), mustSpan(t)(Sin(k, n))
			a := mustSpan(t)(Add(mustSpan(t)(Mul(c, c)), mustSpan(t)(Mul(s, s))))
			if has, e := Has(a, fracOf("1")); !has || e != api.OK {
				t.Error(k, n, a, has, e)
			}
		}
	}
}

// TestP55SumsOfAngles has angles with denominators whose least common multiple is at most 720.
func TestP55SumsOfAngles(t *testing.T) {
	d := dice(2)
	for range 30000 {
		m := 1 + int(d.below(26))
		n := 1 + int(d.below(int64(720/m)))
		j, k := int(d.below(int64(3*m)))-m, int(d.below(int64(3*n)))-n
		if d.below(2) == 0 {
			m, n, j, k = n, m, k, j
		}
		a, b := mustSpan(t)(Cos(j, m)), mustSpan(t)(Sin(j, m))
		p, q := mustSpan(t)(Cos(k, n)), mustSpan(t)(Sin(k, n))
		cos := mustSpan(t)(Sub(mustSpan(t)(Mul(a, p)), mustSpan(t)(Mul(b, q))))
		sin := mustSpan(t)(Add(mustSpan(t)(Mul(a, q)), mustSpan(t)(Mul(b, p))))
		if !common(cos, mustSpan(t)(Cos(j*n+k*m, m*n))) || !common(sin, mustSpan(t)(Sin(j*n+k*m, m*n))) {
			t.Error(j, m, k, n, cos, sin)
		}
	}
}

func common(a, b api.Span) bool { return a.Lo <= b.Hi && b.Lo <= a.Hi }

// TestP55Symmetry has turns, halves, quarters and opposite angles.
func TestP55Symmetry(t *testing.T) {
	less := func(a api.Span) api.Span { return api.Span{Lo: -a.Hi, Hi: -a.Lo} }
	for n := 4; n <= 720; n += 4 {
		for k := -n; k <= n; k++ {
			c, s := mustSpan(t)(Cos(k, n)), mustSpan(t)(Sin(k, n))
			if mustSpan(t)(Cos(-k, n)) != c || mustSpan(t)(Sin(-k, n)) != less(s) {
				t.Error("opposite", k, n)
			}
			if mustSpan(t)(Cos(k+n/2, n)) != less(c) || mustSpan(t)(Sin(k+n/2, n)) != less(s) {
				t.Error("half", k, n)
			}
			if mustSpan(t)(Cos(k+n/4, n)) != less(s) || mustSpan(t)(Sin(k+n/4, n)) != c {
				t.Error("quarter", k, n)
			}
		}
	}
}

// mustSpan takes the results of a call that has no error.
func mustSpan(t *testing.T) func(a api.Span, e api.Errno) api.Span {
	return func(a api.Span, e api.Errno) api.Span {
		t.Helper()
		if e != api.OK {
			t.Fatal(a, e)
		}
		return a
	}
}
