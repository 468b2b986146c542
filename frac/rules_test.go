package frac

import (
	"math"
	"slices"
	"testing"

	"fringe/api"
)

// TestErrBadFirst has invalid fractions together with each other error, which comes after theirs; all results are zero values.
func TestErrBadFirst(t *testing.T) {
	zero := api.Frac{Num: 0, Den: 1}
	for _, a := range bad {
		for name, do := range map[string]func(a, b api.Frac) (api.Frac, api.Errno){"Add": Add, "Sub": Sub, "Mul": Mul, "Div": Div} {
			for _, c := range [][2]api.Frac{{a, zero}, {zero, a}, {a, a}, {a, bad[0]}, {bad[0], a}, {a, {Num: most, Den: 1}}, {{Num: most, Den: 1}, a}} {
				if r, e := do(c[0], c[1]); r != (api.Frac{}) || e != api.ErrBad {
					t.Error(name, c, r, e)
				}
			}
		}
		for _, c := range [][2]api.Frac{{a, zero}, {zero, a}, {a, a}} {
			if r, e := Cmp(c[0], c[1]); r != 0 || e != api.ErrBad {
				t.Error("Cmp", c, r, e)
			}
		}
		if r, e := Floor(a); r != 0 || e != api.ErrBad {
			t.Error("Floor", a, r, e)
		}
		if r, e := Expand(a); len(r) != 0 || e != api.ErrBad {
			t.Error("Expand", a, r, e)
		}
		for _, m := range []int64{math.MinInt64, 0, 1, 7, most, most + 1} {
			if r, e := Near(a, m); r != (api.Frac{}) || e != api.ErrBad {
				t.Error("Near", a, m, r, e)
			}
		}
		if r, e := Text(a); r != "" || e != api.ErrBad {
			t.Error("Text", a, r, e)
		}
	}
}

// TestR2FoldReadsOnly looks at a list and at the memory behind it, and with both lengths that have an error, too.
func TestR2FoldReadsOnly(t *testing.T) {
	for _, n := range []int{0, 1, 4, 6, 100, 101} {
		all := slices.Repeat([]int64{3, 1, 4}, 50)
		before := slices.Clone(all)
		Fold(all[:n])
		if !slices.Equal(all, before) {
			t.Error(n, "changed")
		}
	}
}

func TestR2ExpandIsNew(t *testing.T) {
	a := api.Frac{Num: 43, Den: 30}
	want := []int64{1, 2, 3, 4}
	l, _ := Expand(a)
	m, _ := Expand(a)
	for k := range l[:cap(l)] {
		l[:cap(l)][k] = -1
	}
	n, e := Expand(a)
	if !slices.Equal(m, want) || !slices.Equal(n, want) || e != api.OK {
		t.Error(m, n, e)
	}
}

func TestR3FoldOfNothing(t *testing.T) {
	a, e := Fold(nil)
	b, f := Fold([]int64{})
	if a != b || e != f || e != api.ErrMany {
		t.Error(a, e, b, f)
	}
}

// TestR7NeverPanics calls everything with all pairs of numbers, valid or not.
func TestR7NeverPanics(t *testing.T) {
	var l []api.Frac
	for _, n := range numbers {
		for _, d := range numbers {
			a := api.Frac{Num: n, Den: d}
			l = append(l, a)
			Check(a)
			Make(n, d)
			Floor(a)
			Expand(a)
			Text(a)
			Fold([]int64{n, d})
			Fold([]int64{d, n, d, n})
			for _, m := range numbers {
				Near(a, m)
				Fold([]int64{m, n, d})
			}
		}
	}
	for k, a := range l {
		for j := k % 7; j < len(l); j += 7 {
			Add(a, l[j])
			Sub(a, l[j])
			Mul(a, l[j])
			Div(a, l[j])
			Cmp(a, l[j])
		}
	}
}
