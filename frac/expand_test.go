package frac

import (
	"math"
	"math/big"
	"slices"
	"testing"

	"fringe/api"
)

// folded is what a list folds to, or the error of Fold, by way of big numbers.
func folded(l []int64) (api.Frac, api.Errno) {
	if len(l) == 0 || len(l) > 100 {
		return api.Frac{}, api.ErrMany
	}
	for k, c := range l {
		if k > 0 && c < 1 || k == 0 && (c < -most || c > most) {
			return api.Frac{}, api.ErrArg
		}
	}
	r := new(big.Rat).SetInt64(l[len(l)-1])
	for k := len(l) - 2; k >= 0; k-- {
		if _, e := fraction(r); e != api.OK {
			return api.Frac{}, e
		}
		r = new(big.Rat).Add(new(big.Rat).SetInt64(l[k]), r.Inv(r))
	}
	return fraction(r)
}

// isExpansion is the definition of an expansion but for what it folds to.
func isExpansion(l []int64) bool {
	return len(l) == 1 || len(l) > 1 && slices.Min(l[1:]) >= 1 && l[len(l)-1] >= 2
}

func TestP14Expand(t *testing.T) {
	for s, want := range map[string][]int64{
		"43/30": {1, 2, 3, 4}, "-7/2": {-4, 2}, "0": {0}, "5": {5}, "-5": {-5}, "1/2": {0, 2}, "-1/2": {-1, 2}, "2/3": {0, 1, 2}, "-1/3": {-1, 1, 2},
		"1000000000000000000": {most}, "-1000000000000000000": {-most}, "1/1000000000000000000": {0, most},
		"-1/1000000000000000000":                  {-1, 1, most - 1},
		"999999999999999999/1000000000000000000":  {0, 1, most - 1},
		"-1000000000000000000/999999999999999999": {-2, 1, most - 2},
		"1000000000000000000/3":                   {most / 3, 3},
		"679891637638612258/420196140727489673":   append(slices.Repeat([]int64{1}, 84), 2),
		"-1000000000000000000/3":                  {-most/3 - 1, 1, 2},
		"999999999999999999/2":                    {most/2 - 1, 2},
		"500000000000000000/999999999999999999":   {0, 1, 1, most/2 - 1},
		"-500000000000000000/999999999999999999":  {-1, 2, most/2 - 1},
		"1000000000000000000/1":                   {most},
	} {
		if l, e := Expand(read(t, s)); !slices.Equal(l, want) || e != api.OK {
			t.Error(s, l, e)
		}
	}
}

func TestP14P17ExpandAnywhere(t *testing.T) {
	l := fractions()
	d := dice(3)
	for range 5000 {
		l = append(l, d.frac())
	}
	for _, a := range l {
		x, e := Expand(a)
		if e != api.OK || !isExpansion(x) {
			t.Error(a, x, e)
			continue
		}
		if r, e := folded(x); r != a || e != api.OK {
			t.Error("no expansion of it", a, x, r, e)
		}
		if r, e := Fold(x); r != a || e != api.OK {
			t.Error("Fold of Expand", a, x, r, e)
		}
	}
}

func TestP14Fold(t *testing.T) {
	ones := func(n int) []int64 { return slices.Repeat([]int64{1}, n) }
	for _, c := range []struct {
		l    []int64
		want string
		e    api.Errno
	}{
		{[]int64{1, 2, 3, 4}, "43/30", api.OK},
		{[]int64{-4, 2}, "-7/2", api.OK},
		{[]int64{1, 1}, "2", api.OK},
		{[]int64{-1, 1}, "0", api.OK},
		{[]int64{0, 1, 1}, "1/2", api.OK},
		{[]int64{0}, "0", api.OK},
		{ones(86), "679891637638612258/420196140727489673", api.OK},
		{ones(87), "", api.ErrRange},
		{ones(100), "", api.ErrRange},
		{ones(101), "", api.ErrMany},
		{nil, "", api.ErrMany},
		{[]int64{}, "", api.ErrMany},
		{[]int64{most}, "1000000000000000000", api.OK},
		{[]int64{-most}, "-1000000000000000000", api.OK},
		{[]int64{most + 1}, "", api.ErrArg},
		{[]int64{-most - 1}, "", api.ErrArg},
		{[]int64{math.MinInt64}, "", api.ErrArg},
		{[]int64{math.MaxInt64}, "", api.ErrArg},
		{[]int64{0, most}, "1/1000000000000000000", api.OK},
		{[]int64{0, most + 1}, "", api.ErrRange},
		{[]int64{0, math.MaxInt64}, "", api.ErrRange},
		{[]int64{0, math.MaxInt64, math.MaxInt64}, "", api.ErrRange},
		{[]int64{0, most + 1, 2}, "", api.ErrRange},
		{[]int64{0, most, 1}, "", api.ErrRange},
		{[]int64{0, most - 1, 1}, "1/1000000000000000000", api.OK},
		{[]int64{0, 1, most}, "", api.ErrRange},
		{[]int64{0, 1, most - 1}, "999999999999999999/1000000000000000000", api.OK},
		{[]int64{most, 1}, "", api.ErrRange},
		{[]int64{most - 1, 1}, "1000000000000000000", api.OK},
		{[]int64{-most, 1}, "-999999999999999999", api.OK},
		{[]int64{-most, 2}, "", api.ErrRange},
		{[]int64{1, 0}, "", api.ErrArg},
		{[]int64{1, -1, 2}, "", api.ErrArg},
		{[]int64{1, 2, 0}, "", api.ErrArg},
		{[]int64{1, math.MinInt64, 2}, "", api.ErrArg},
	} {
		var want api.Frac
		if c.want != "" {
			want = read(t, c.want)
		}
		if a, e := Fold(c.l); a != want || e != c.e {
			t.Error(c, a, e)
		}
	}
}

func TestP14FoldSeveralErrors(t *testing.T) {
	long := slices.Repeat([]int64{0}, 101)
	long[0] = most + 1
	long[100] = math.MaxInt64
	for _, c := range []struct {
		l    []int64
		want api.Errno
	}{
		{long, api.ErrMany},
		{long[1:], api.ErrArg},
		{[]int64{most + 1, math.MaxInt64}, api.ErrArg},
		{[]int64{0, 0, math.MaxInt64}, api.ErrArg},
		{[]int64{0, math.MaxInt64, 0}, api.ErrArg},
	} {
		if a, e := Fold(c.l); a != (api.Frac{}) || e != c.want {
			t.Error(len(c.l), a, e, c.want)
		}
	}
}

func TestP14FoldAnywhere(t *testing.T) {
	d := dice(4)
	for range 20000 {
		l := make([]int64, 1+d.next()%12)
		for k := range l {
			l[k] = int64(d.next() >> (1 + d.next()%63))
			if k == 0 && d.next()%2 == 0 {
				l[k] = -l[k]
			}
		}
		want, code := folded(l)
		if a, e := Fold(l); a != want || e != code {
			t.Error(l, a, e, want, code)
		}
	}
}
