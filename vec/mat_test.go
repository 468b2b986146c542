package vec

import (
	"testing"

	"fringe/api"
)

// one is the matrix that changes nothing.
const one = "1 0 0  0 1 0  0 0 1"

func TestP23Apply(t *testing.T) {
	for _, c := range []struct{ m, v, want string }{
		{one, "1/2 -3 " + e18, "1/2 -3 " + e18},
		{"1 2 3  4 5 6  7 8 9", "1 0 0", "1 4 7"},
		{"1 2 3  4 5 6  7 8 9", "0 1 0", "2 5 8"},
		{"1 2 3  4 5 6  7 8 9", "1 1/2 -1", "-1 1/2 2"},
		{"0 0 0  0 0 0  0 0 0", e18 + " 1 2", "0 0 0"},
	} {
		if r, e := Apply(matOf(t, c.m), vecOf(t, c.v)); r != vecOf(t, c.want) || e != api.OK {
			t.Error(c, r, e)
		}
	}
}

func TestP23Prod(t *testing.T) {
	const m, n = "1 2 3  4 5 6  7 8 10", "0 1 -1/2  2 0 3  1 1 1"
	for _, c := range []struct{ m, n, want string }{
		{m, one, m}, {one, m, m},
		{m, n, "7 4 17/2  16 10 19  26 17 61/2"},
		{n, m, "1/2 1 1  23 28 36  12 15 19"},
	} {
		if r, e := Prod(matOf(t, c.m), matOf(t, c.n)); r != matOf(t, c.want) || e != api.OK {
			t.Error(c, r, e)
		}
	}
}

func TestP23Flip(t *testing.T) {
	m := matOf(t, "1 2/3 "+e18+"  4 5 -6  7 1/"+e18+" -9/2")
	want := matOf(t, "1 4 7  2/3 5 1/"+e18+"  "+e18+" -6 -9/2")
	if r, e := Flip(m); r != want || e != api.OK {
		t.Error(r, e)
	}
	if r, e := Flip(want); r != m || e != api.OK {
		t.Error(r, e)
	}
}

func TestP23Det(t *testing.T) {
	for _, c := range []struct{ m, want string }{
		{one, "1"}, {"-1 0 0  0 -1 0  0 0 -1", "-1"},
		{"0 1 0  1 0 0  0 0 1", "-1"}, {"0 1 0  0 0 1  1 0 0", "1"},
		{"1 2 3  4 5 6  7 8 10", "-3"}, {"1 2 3  4 5 6  7 8 9", "0"},
		{"1/2 0 3  -1 2/3 0  0 5 1/4", "-179/12"},
		{e18 + " 0 0  0 1 0  0 0 1", e18}, {"0 0 0  " + e18 + " 0 0  0 1 0", "0"},
	} {
		if r, e := Det(matOf(t, c.m)); r != read(t, c.want) || e != api.OK {
			t.Error(c, r, e)
		}
	}
}

// TestP23OutOfRange has each dot product of Apply and of Prod out of range alone, and each product in Det.
func TestP23OutOfRange(t *testing.T) {
	two, top := read(t, "2"), read(t, e18)
	zeros := matOf(t, "0 0 0  0 0 0  0 0 0")
	zero := vecOf(t, "0 0 0")
	for i := range 3 {
		for k := range 3 {
			m := zeros
			m[i][k] = top
			if r, e := Apply(m, with(zero, k, two)); r != (api.Vec{}) || e != api.ErrRange {
				t.Error("Apply", i, k, r, e)
			}
			for l := range 3 {
				n := zeros
				n[k][l] = two
				if r, e := Prod(m, n); r != (api.Mat{}) || e != api.ErrRange {
					t.Error("Prod", i, k, l, r, e)
				}
			}
		}
	}
	for _, c := range []struct{ name, m string }{
		{"the dot product", "2 0 0  0 " + e18 + " 0  0 0 1"},
		{"the cross product", "0 0 0  0 " + e18 + " 0  0 0 2"},
		{"another coordinate of the cross product", "1 0 0  0 1 " + e18 + "  2 0 1"},
		{"a difference in the cross product", "0 0 1  " + e18 + " 1 0  -1 1 0"},
		{"between, in the dot product", e18 + " 1 -1  0 1 1  1 0 1"},
		{"the determinant alone would not", "0 0 1/" + e18 + "  " + e18 + " 0 0  0 2 0"},
	} {
		if r, e := Det(matOf(t, c.m)); r != (api.Frac{}) || e != api.ErrRange {
			t.Error(c, r, e)
		}
	}
}

// TestP23Rows tells the product of the second and the third row from the other ones that give the same determinant.
func TestP23Rows(t *testing.T) {
	for m, want := range map[string]api.Errno{
		"0 0 0  " + e18 + " 0 0  0 2 0": api.ErrRange,
		e18 + " 0 0  0 2 0  0 0 0":      api.OK,
		"0 2 0  0 0 0  " + e18 + " 0 0": api.OK,
	} {
		if _, e := Det(matOf(t, m)); e != want {
			t.Error(m, e, want)
		}
	}
}

func TestP23Anywhere(t *testing.T) {
	d := dice(3)
	many := map[api.Errno]int{}
	for k := range 3000 {
		bits := uint64(2 + k%40)
		m, n, v := d.mat(bits), d.mat(bits), d.vec(bits)
		w, code := wantApply(m, v)
		many[code]++
		if r, e := Apply(m, v); r != w || e != code {
			t.Error("Apply", m, v, r, e, w, code)
		}
		p, code := wantProd(m, n)
		many[code]++
		if r, e := Prod(m, n); r != p || e != code {
			t.Error("Prod", m, n, r, e, p, code)
		}
		a, code := wantDet(m)
		many[code]++
		if r, e := Det(m); r != a || e != code {
			t.Error("Det", m, r, e, a, code)
		}
		if r, e := Flip(m); r != wantFlip(m) || e != api.OK {
			t.Error("Flip", m, r, e)
		}
	}
	if many[api.OK] < 1000 || many[api.ErrRange] < 1000 {
		t.Error("one-sided", many)
	}
}
