package vec

import (
	"math"
	"testing"

	"fringe/api"
)

func TestP24Turn(t *testing.T) {
	for _, c := range []struct {
		axis    int
		t, want string
	}{
		{2, "1/2", "3/5 -4/5 0  4/5 3/5 0  0 0 1"},
		{0, "1/2", "1 0 0  0 3/5 -4/5  0 4/5 3/5"},
		{1, "1/2", "3/5 0 4/5  0 1 0  -4/5 0 3/5"},
		{2, "-1/2", "3/5 4/5 0  -4/5 3/5 0  0 0 1"},
		{2, "3", "-4/5 -3/5 0  3/5 -4/5 0  0 0 1"},
		{0, "0", one}, {1, "0", one}, {2, "0", one},
		{0, "1", "1 0 0  0 0 -1  0 1 0"}, {1, "1", "0 0 1  0 1 0  -1 0 0"}, {2, "1", "0 -1 0  1 0 0  0 0 1"}, {2, "-1", "0 1 0  -1 0 0  0 0 1"},
		// The square of t, and 1 more, are just in range.
		{2, "999999999", "-499999999000000000/499999999000000001 -999999999/499999999000000001 0  999999999/499999999000000001 -499999999000000000/499999999000000001 0  0 0 1"},
		{2, "1/999999999", "499999999000000000/499999999000000001 -999999999/499999999000000001 0  999999999/499999999000000001 499999999000000000/499999999000000001 0  0 0 1"},
		{0, "707106781/707106780", "1 0 0  0 -1414213561/999999998058150361 -999999998058150360/999999998058150361  0 999999998058150360/999999998058150361 -1414213561/999999998058150361"},
	} {
		want := matOf(t, c.want)
		if r, e := Turn(c.axis, read(t, c.t)); r != want || e != api.OK {
			t.Error(c, r, e)
		}
	}
}

func TestP24TurnErrors(t *testing.T) {
	for _, axis := range []int{-1, 3, 4, math.MinInt, math.MaxInt} {
		for _, s := range []string{"0", "1/2", e18} {
			if r, e := Turn(axis, read(t, s)); r != (api.Mat{}) || e != api.ErrArg {
				t.Error(axis, s, r, e)
			}
		}
		for _, a := range bad {
			if r, e := Turn(axis, a); r != (api.Mat{}) || e != api.ErrBad {
				t.Error(axis, a, r, e)
			}
		}
	}
	for axis := range 3 {
		for _, s := range []string{
			e18, "-" + e18, "1/" + e18, "1000000001", "1/1000000001", "1000000001/2",
			// The square is in range, 1 more is not.
			"1000000000", "-1000000000", "1/1000000000", "-1/1000000000", "707106782/707106781",
			// The cosine and the sine would be in range, too, since 2 divides their numbers.
			"707106783/707106781", "-707106783/707106781", "707106781/707106783", "999999999/999999997",
		} {
			if r, e := Turn(axis, read(t, s)); r != (api.Mat{}) || e != api.ErrRange {
				t.Error(axis, s, r, e)
			}
		}
	}
}

func TestP24TurnAnywhere(t *testing.T) {
	d := dice(4)
	many := map[api.Errno]int{}
	for k := range 6000 {
		a := d.frac(uint64(1 + k%60))
		axis := k % 3
		want, code := wantTurn(axis, a)
		many[code]++
		if r, e := Turn(axis, a); r != want || e != code {
			t.Error(axis, a, r, e, want, code)
		}
	}
	if many[api.OK] < 1000 || many[api.ErrRange] < 1000 {
		t.Error("one-sided", many)
	}
}

func TestP24Is(t *testing.T) {
	const turn = "3/5 -4/5 0  4/5 3/5 0  0 0 1"
	for m, want := range map[string]bool{
		one: true, turn: true, "0 1 0  0 0 1  1 0 0": true, "2/3 -1/3 2/3  2/3 2/3 -1/3  -1/3 2/3 2/3": true, "-1 0 0  0 -1 0  0 0 1": true,
		// The determinant is -1.
		"0 1 0  1 0 0  0 0 1": false, "-1 0 0  0 -1 0  0 0 -1": false, "1 0 0  0 1 0  0 0 -1": false, "3/5 4/5 0  4/5 -3/5 0  0 0 1": false,
		// The determinant is 1, but the product is another one: in one element, or in two.
		"2 0 0  0 1/2 0  0 0 1": false, "2 0 0  0 1 0  0 0 1/2": false, "1 0 0  0 2 0  0 0 1/2": false,
		"1 1 0  0 1 0  0 0 1": false, "1 0 0  0 1 1  0 0 1": false, "1 0 0  0 1 0  5 0 1": false, "1 0 0  -1/7 1 0  0 0 1": false,
		"0 0 0  0 0 0  0 0 0": false, "2 0 0  0 2 0  0 0 2": false, "1 2 3  4 5 6  7 8 10": false,
		// Rows of another length, at right angles.
		"3 -4 0  4/25 3/25 0  0 0 1": false,
	} {
		if r, e := Is(matOf(t, m)); r != want || e != api.OK {
			t.Error(m, r, e)
		}
	}
}

func TestP24IsOutOfRange(t *testing.T) {
	for _, c := range []struct{ name, m string }{
		{"the product", e18 + " 0 0  0 1 0  0 0 1"},
		{"the product, in the last row", "1 0 0  0 1 0  0 0 1/" + e18},
		{"the product, although the determinant is 1", "1000000001 0 0  0 1/1000000001 0  0 0 1"},
		{"the determinant alone", "1/999999999 0 0  0 1/999999998 0  0 0 1/999999997"},
		{"the determinant alone, by its cross product", "1 0 0  0 1/999999999 1/999999998  0 1/999999997 1/999999995"},
	} {
		if r, e := Is(matOf(t, c.m)); r || e != api.ErrRange {
			t.Error(c, r, e)
		}
	}
	if _, e := wantProd(matOf(t, "1/999999999 0 0  0 1/999999998 0  0 0 1/999999997"), matOf(t, "1/999999999 0 0  0 1/999999998 0  0 0 1/999999997")); e != api.OK {
		t.Error("not by the determinant alone", e)
	}
}

func TestP24IsAnywhere(t *testing.T) {
	d := dice(5)
	for k := range 2000 {
		m := d.mat(uint64(1 + k%12))
		want, code := wantIs(m)
		if r, e := Is(m); r != want || e != code {
			t.Error(m, r, e, want, code)
		}
	}
	// All matrices with elements that are -1, 0 or 1: 24 of them are rotations.
	many := 0
	for c := range 19683 {
		var m api.Mat
		for k, x := 0, c; k < 9; k, x = k+1, x/3 {
			m[k/3][k%3] = api.Frac{Num: int64(x%3) - 1, Den: 1}
		}
		r, e := Is(m)
		if e != api.OK {
			t.Error(m, e)
		}
		if r {
			many++
		}
	}
	if many != 24 {
		t.Error("rotations", many)
	}
}

// params are small parameters of turns.
func params() []api.Frac {
	var l []api.Frac
	for n := int64(-6); n <= 6; n++ {
		for d := int64(1); d <= 6; d++ {
			if a := (api.Frac{Num: n, Den: d}); valid(a) {
				l = append(l, a)
			}
		}
	}
	return l
}

func turnOf(t *testing.T, axis int, a api.Frac) api.Mat {
	t.Helper()
	m, e := Turn(axis, a)
	if e != api.OK {
		t.Fatal(axis, a, e)
	}
	return m
}

func TestP25TurnIsRotation(t *testing.T) {
	unit := matOf(t, one)
	d := dice(6)
	for _, a := range params() {
		for axis := range 3 {
			m := turnOf(t, axis, a)
			if is, e := Is(m); !is || e != api.OK {
				t.Error("no rotation", axis, a, is, e)
			}
			f, e := Flip(m)
			p, g := Prod(m, f)
			q, h := Prod(f, m)
			if e != api.OK || g != api.OK || h != api.OK || p != unit || q != unit {
				t.Error("not undone", axis, a, p, q, e, g, h)
			}
			v, w := d.vec(3), d.vec(3)
			x, e := Apply(m, v)
			y, g := Apply(m, w)
			b, h := Dot(v, w)
			c, i := Dot(x, y)
			if e != api.OK || g != api.OK || h != api.OK || i != api.OK || b != c {
				t.Error("dot product", axis, a, v, w, b, c)
			}
		}
	}
}

func TestP25Products(t *testing.T) {
	d := dice(7)
	l := params()
	some := func() api.Mat { return turnOf(t, int(d.next()%3), l[d.next()%uint64(len(l))]) }
	for range 1000 {
		m, n := some(), some()
		p, e := Prod(m, n)
		is, f := Is(p)
		if e != api.OK || f != api.OK || !is {
			t.Error("no rotation", m, n, p, is, e, f)
		}
		v := d.vec(3)
		x, e := Apply(n, v)
		y, f := Apply(m, x)
		z, g := Apply(p, v)
		if e != api.OK || f != api.OK || g != api.OK || y != z {
			t.Error("one after the other", m, n, v, y, z)
		}
	}
}

// TestP25SameAxis has turns one after the other, which are the turn with (s + t) / (1 - s t), or half a turn if s t is 1.
func TestP25SameAxis(t *testing.T) {
	halves := []string{"1 0 0  0 -1 0  0 0 -1", "-1 0 0  0 1 0  0 0 -1", "-1 0 0  0 -1 0  0 0 1"}
	for axis := range 3 {
		for _, a := range params() {
			for _, b := range params() {
				p, e := Prod(turnOf(t, axis, a), turnOf(t, axis, b))
				want := matOf(t, halves[axis])
				if a.Num*b.Num != a.Den*b.Den {
					x := over(plus(exact(a), exact(b)), less(exact(api.Frac{Num: 1, Den: 1}), product(exact(a), exact(b))))
					u, _ := fraction(x)
					want = turnOf(t, axis, u)
				}
				if p != want || e != api.OK {
					t.Error(axis, a, b, p, e, want)
				}
			}
		}
	}
}

func TestExamples(t *testing.T) {
	v, w := vecOf(t, "1 2 3"), vecOf(t, "4 5 6")
	if a, e := Dot(v, w); a != read(t, "32") || e != api.OK {
		t.Error(a, e)
	}
	if c, e := Cross(v, w); c != vecOf(t, "-3 6 -3") || e != api.OK {
		t.Error(c, e)
	}
	if r, e := Apply(turnOf(t, 2, read(t, "1/2")), vecOf(t, "1 0 0")); r != vecOf(t, "3/5 4/5 0") || e != api.OK {
		t.Error(r, e)
	}
	quarter := turnOf(t, 2, read(t, "1"))
	if r, e := Apply(quarter, vecOf(t, "1 0 0")); r != vecOf(t, "0 1 0") || e != api.OK {
		t.Error(r, e)
	}
}
