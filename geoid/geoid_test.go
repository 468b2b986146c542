package geoid

import (
	"testing"

	"fringe/api"
	"fringe/vec"
)

func TestP31Check(t *testing.T) {
	for _, g := range goodGlobes {
		if e := Check(g); e != api.OK {
			t.Error(g, e)
		}
	}
	for _, g := range badGlobes {
		if e := Check(g); e != api.ErrArg {
			t.Error(g, e)
		}
	}
}

// inside calls Inside, and On with the same point.
func inside(t *testing.T, g api.Globe, p api.Vec) (int, api.Errno) {
	t.Helper()
	sign, e := Inside(g, p)
	if on, f := On(g, p); f != e || on != (e == api.OK && sign == 0) {
		t.Error("On", g, p, on, f, sign, e)
	}
	return sign, e
}

func TestP32OnInside(t *testing.T) {
	flat, round, long := api.Globe{A: 6, B: 3}, api.Globe{A: 1, B: 1}, api.Globe{A: 2, B: 1000}
	for _, c := range []struct {
		g    api.Globe
		p    string
		want int
	}{
		{flat, "18/5 0 12/5", 0}, {flat, "0 6 0", 0}, {flat, "0 0 3", 0}, {flat, "0 0 -3", 0}, {flat, "-6 0 0", 0}, {flat, "4 4 1", 0},
		{flat, "0 0 0", -1}, {flat, "18/5 0 -11/5", -1}, {flat, "0 0 301/100", 1}, {flat, "0 0 299/100", -1}, {flat, "3 0 0", -1}, {flat, "0 0 6", 1},
		{flat, "601/100 0 0", 1}, {flat, "0 -601/100 0", 1}, {flat, "599/100 0 0", -1}, {flat, "0 -599/100 0", -1}, {flat, "4 4 101/100", 1}, {flat, "4 4 99/100", -1},
		{round, "1 1 1", 1}, {round, "2/3 -2/3 1/3", 0}, {round, "-2/7 3/7 6/7", 0}, {round, "1/2 1/2 1/2", -1},
		{long, "0 0 1000", 0}, {long, "0 0 -999", -1}, {long, "6/5 0 800", 0}, {long, "0 0 1001", 1}, {long, "3 0 0", 1}, {long, "0 -1 0", -1},
		{round, "1000000000 0 0", 1}, {round, "0 -1000000000 0", 1}, {round, "0 0 1/1000000000", -1}, {round, "999999999 30000 1000", 1},
	} {
		if sign, e := inside(t, c.g, vecOf(t, c.p)); sign != c.want || e != api.OK {
			t.Error(c, sign, e)
		}
	}
}

// TestP32OutOfRange has what is out of range at each place, and the same just in range.
func TestP32OutOfRange(t *testing.T) {
	zero := vecOf(t, "0 0 0")
	for k := range 3 {
		for _, c := range []struct {
			a    string
			g    api.Globe
			want api.Errno
		}{
			{"1/" + e18, api.Globe{A: 2, B: 2}, api.ErrRange},
			{"1/1000000000", api.Globe{A: 1, B: 1}, api.OK}, {"1/1000000001", api.Globe{A: 1, B: 1}, api.ErrRange},
			{"1/500000000", api.Globe{A: 2, B: 2}, api.OK}, {"1/500000001", api.Globe{A: 2, B: 2}, api.ErrRange},
			{"1000000000", api.Globe{A: 1, B: 1}, api.OK}, {"-1000000001", api.Globe{A: 1, B: 1}, api.ErrRange},
			{"1000000000000", api.Globe{A: 1000, B: 1000}, api.OK}, {e18, api.Globe{A: 1000, B: 1000}, api.ErrRange},
		} {
			if _, e := inside(t, c.g, with(zero, k, read(t, c.a))); e != c.want {
				t.Error(k, c, e)
			}
		}
	}
	round := api.Globe{A: 1, B: 1}
	for _, c := range []struct{ name, p string }{
		{"the first sum", "1000000000 1 0"},
		{"the second sum", "1000000000 0 1"},
		{"the second sum, without the first product", "0 1 1000000000"},
		{"denominators", "1/1000000000 1/3 0"},
		{"the first sum alone", "392/14005 6/2047375 2001/70025"},
	} {
		if sign, e := inside(t, round, vecOf(t, c.p)); sign != 0 || e != api.ErrRange {
			t.Error(c, sign, e)
		}
	}
	if sign, e := inside(t, round, vecOf(t, "392/14005 2001/70025 6/2047375")); sign != -1 || e != api.OK {
		t.Error("the same in another order", sign, e)
	}
}

func TestP34Normal(t *testing.T) {
	for _, c := range []struct {
		g       api.Globe
		p, want string
	}{
		{api.Globe{A: 6, B: 3}, "0 0 3", "0 0 1/3"},
		{api.Globe{A: 6, B: 3}, "18/5 0 12/5", "1/10 0 4/15"},
		{api.Globe{A: 6, B: 3}, "-6 72 -27", "-1/6 2 -3"},
		{api.Globe{A: 1, B: 2}, e18 + " -" + e18 + " " + e18, e18 + " -" + e18 + " 250000000000000000"},
		{api.Globe{A: 1000, B: 999}, "0 0 0", "0 0 0"},
		{api.Globe{A: 1000, B: 1}, "1/1000000000000 -1/1000000000000 1/" + e18, "1/" + e18 + " -1/" + e18 + " 1/" + e18},
		{api.Globe{A: 1, B: 1000}, e18 + " 1 1/1000000000000", e18 + " 1 1/" + e18},
	} {
		if n, e := Normal(c.g, vecOf(t, c.p)); n != vecOf(t, c.want) || e != api.OK {
			t.Error(c, n, e)
		}
	}
	zero := vecOf(t, "0 0 0")
	for k := range 3 {
		for _, s := range []string{"1/1000000000001", "-1/1000000000001", "1/" + e18, "1/10000000000000"} {
			// The relative vector has no error with the last one of these.
			if n, e := Normal(api.Globe{A: 1000, B: 1000}, with(zero, k, read(t, s))); n != (api.Vec{}) || e != api.ErrRange {
				t.Error(k, s, n, e)
			}
		}
	}
}

func TestP34Side(t *testing.T) {
	flat, round := api.Globe{A: 6, B: 3}, api.Globe{A: 1, B: 1}
	for _, c := range []struct {
		g    api.Globe
		p, q string
		want int
	}{
		{flat, "0 0 3", "9 9 4", 1}, {flat, "0 0 3", "9 9 3", 0}, {flat, "0 0 3", "18/5 0 12/5", -1}, {flat, "0 0 3", "0 0 3", 0},
		{flat, "18/5 0 12/5", "10 5 0", 0}, {flat, "18/5 0 12/5", "10 -7 1/100", 1}, {flat, "18/5 0 12/5", "10 0 -1/100", -1}, {flat, "18/5 0 12/5", "0 0 15/4", 0},
		{flat, "4 4 1", "9 0 0", 0}, {flat, "4 4 1", "0 9 0", 0}, {flat, "4 4 1", "0 0 9", 0}, {flat, "4 4 1", "3 3 4", 1}, {flat, "4 4 1", "3 3 2", -1},
		{flat, "-6 0 0", "-7 0 0", 1}, {flat, "-6 0 0", "7 0 0", -1}, {flat, "-6 0 0", "-6 " + e18 + " " + e18, 0},
		{api.Globe{A: 10, B: 10}, "0 10 0", "1/" + e18 + " 11 1/" + e18, 1}, {round, "2/3 -2/3 1/3", "300000000000000000 300000000000000000 3", 0},
		{round, "1 0 0", e18 + " 5 5", 1}, {round, "1 0 0", "-" + e18 + " 5 5", -1}, {round, "1 0 0", "999999999999999999/" + e18 + " 0 0", -1},
		{round, "0 1 0", "7 -" + e18 + " 7", -1}, {round, "0 0 -1", "7 7 " + e18, -1}, {round, "0 0 -1", "7 7 -" + e18, 1},
	} {
		if sign, e := Side(c.g, vecOf(t, c.p), vecOf(t, c.q)); sign != c.want || e != api.OK {
			t.Error(c, sign, e)
		}
	}
}

func TestP34SideErrors(t *testing.T) {
	flat, round := api.Globe{A: 6, B: 3}, api.Globe{A: 1, B: 1}
	for _, c := range []struct {
		name string
		g    api.Globe
		p, q string
		want api.Errno
	}{
		{"p inside", flat, "0 0 2", "0 0 3", api.ErrNone},
		{"p outside", flat, "0 0 4", "0 0 3", api.ErrNone},
		{"p at the center", flat, "0 0 0", "0 0 0", api.ErrNone},
		{"p is not on it, and a product with q would be out of range", flat, "0 0 2", "0 0 1/" + e18, api.ErrNone},
		{"the measure of p", round, "1000000001 0 0", "0 0 0", api.ErrRange},
		{"the relative vector of p", flat, "1/" + e18 + " 0 0", "0 0 0", api.ErrRange},
		{"the first product", flat, "6 0 0", "1/" + e18 + " 0 0", api.ErrRange},
		{"the second product", flat, "0 -6 0", "0 1/" + e18 + " 0", api.ErrRange},
		{"the third product", flat, "0 0 3", "0 0 1/" + e18, api.ErrRange},
		{"the first sum", round, "3/5 4/5 0", e18 + " " + e18 + " 0", api.ErrRange},
		{"products that cancel in the end", round, "2/3 2/3 1/3", e18 + " " + e18 + " -" + e18, api.ErrRange},
		{"the second sum", round, "2/3 -2/3 1/3", e18 + " " + e18 + " 1/" + e18, api.ErrRange},
	} {
		if sign, e := Side(c.g, vecOf(t, c.p), vecOf(t, c.q)); sign != 0 || e != c.want {
			t.Error(c, sign, e)
		}
	}
}

// TestP32P34Anywhere compares with big numbers. Some results have to be in range, and some have to be out of it.
func TestP32P34Anywhere(t *testing.T) {
	d := dice(1)
	many := map[api.Errno]int{}
	for k := range 8000 {
		bits := uint64(2 + k%58)
		g, p := d.globe(), d.vec(bits)
		want, code := wantInside(g, p)
		many[code]++
		if sign, e := inside(t, g, p); sign != want || e != code {
			t.Error("Inside", g, p, sign, e, want, code)
		}
		normal, code := wantNormal(g, p)
		many[code]++
		if n, e := Normal(g, p); n != normal || e != code {
			t.Error("Normal", g, p, n, e, normal, code)
		}
	}
	if many[api.OK] < 1000 || many[api.ErrRange] < 1000 {
		t.Error("one-sided", many)
	}
}

func TestP34SideAnywhere(t *testing.T) {
	d := dice(2)
	many := map[int]int{}
	low, all := steep(), parameters()
	for k := range 12000 {
		bits := uint64(2 + k%58)
		g, q := d.globe(), d.vec(bits)
		p := wantAt(g, d.oneOf(low), d.oneOf(all))
		if k%8 == 0 {
			p = d.vec(bits)
		}
		want, code := wantSide(g, p, q)
		many[want+100*int(code)]++
		if sign, e := Side(g, p, q); sign != want || e != code {
			t.Error(g, p, q, sign, e, want, code)
		}
	}
	for _, code := range []int{-1, 1, 100 * int(api.ErrNone), 100 * int(api.ErrRange)} {
		if many[code] < 200 {
			t.Error("one-sided", code, many)
		}
	}
}

// TestP35Horizons has all points on a globe, and some in it, below the horizon of each other one.
func TestP35Horizons(t *testing.T) {
	d := dice(3)
	low, all := steep(), parameters()
	for range 3000 {
		g := d.globe()
		p, q := wantAt(g, d.oneOf(low), d.oneOf(all)), wantAt(g, d.oneOf(low), d.oneOf(all))
		if sign, e := Side(g, p, p); sign != 0 || e != api.OK {
			t.Error("itself", g, p, sign, e)
		}
		if sign, e := Side(g, p, q); p != q && (sign != -1 || e != api.OK) {
			t.Error("another one", g, p, q, sign, e)
		}
		near, e := vec.Scale(p, api.Frac{Num: int64(d.next() % 1000), Den: 1009})
		if sign, f := Side(g, p, near); e == api.OK && near != p && (sign != -1 || f != api.OK) {
			t.Error("inside", g, p, near, sign, f)
		}
		far, e := vec.Scale(p, api.Frac{Num: 1010, Den: 1009})
		if sign, f := Side(g, p, far); e != api.OK || sign != 1 || f != api.OK {
			t.Error("above it", g, p, far, sign, e, f)
		}
		inner := d.vec(6)
		if sign, e := Inside(g, inner); e != api.OK || sign != -1 {
			continue
		}
		if sign, e := Side(g, p, inner); e == api.OK && sign != -1 {
			t.Error("inside", g, p, inner, sign)
		}
	}
}

// TestP35Turned turns points about the axis Z.
func TestP35Turned(t *testing.T) {
	d := dice(4)
	low, all := steep(), parameters()
	compared := 0
	for range 3000 {
		g, q := d.globe(), d.vec(7)
		p := wantAt(g, d.oneOf(low), d.oneOf(all))
		turn, e := vec.Turn(2, d.oneOf(all))
		if e != api.OK {
			t.Fatal(e)
		}
		before, e := Side(g, p, q)
		in, f := Inside(g, q)
		turnedP, _ := vec.Apply(turn, p)
		turnedQ, _ := vec.Apply(turn, q)
		if on, e := On(g, turnedP); !on || e != api.OK {
			t.Error("On", g, p, turnedP, on, e)
		}
		after, h := Side(g, turnedP, turnedQ)
		if e == api.OK && h == api.OK {
			compared++
			if before != after {
				t.Error("Side", g, p, q, turnedP, turnedQ, before, after)
			}
		}
		if again, h := Inside(g, turnedQ); f == api.OK && h == api.OK && again != in {
			t.Error("Inside", g, q, turnedQ, in, again)
		}
	}
	if compared < 2000 {
		t.Error("too few compared:", compared)
	}
}
