package array

import (
	"math"
	"slices"
	"testing"

	"fringe/api"
)

func TestP41CheckGood(t *testing.T) {
	for _, g := range goodGlobes {
		for n := range 9 {
			if e := Check(g, mustArray(t, n)); e != api.OK {
				t.Error(g, n, e)
			}
		}
		for _, name := range goodNames {
			if e := Check(g, []api.Site{{Name: name, S: one(-1), T: one(20)}, {Name: "other", S: read("20/20"), T: read("-1/20")}}); e != api.OK {
				t.Error(g, name, e)
			}
		}
	}
	// The places differ, though one of both parameters is the same.
	if e := Check(api.Globe{A: 1, B: 1}, sitesOf("a 0 0", "b 0 1/20", "c 1/20 0", "d 1/20 1/20", "e -1/20 0", "f 1/20 -1/20")); e != api.OK {
		t.Error(e)
	}
	// Names that begin alike are not the same.
	if e := Check(api.Globe{A: 1, B: 1}, sitesOf("a 0 0", "a- 0 1", "a0 0 2", "aa 0 3")); e != api.OK {
		t.Error(e)
	}
}

// calls calls everything with a globe, which has to have the same error and else only zero values.
func calls(t *testing.T, g api.Globe, l []api.Site, want api.Errno) {
	t.Helper()
	if e := Check(g, l); e != want {
		t.Error("Check", g, l, e, want)
	}
	if p, e := Places(g, l); len(p) != 0 || e != want {
		t.Error("Places", g, l, p, e, want)
	}
	if c, e := Classes(g, l); len(c) != 0 || e != want {
		t.Error("Classes", g, l, c, e, want)
	}
	for _, k := range []int{0, -1, 8, math.MaxInt} {
		if v, e := Line(g, l, k, 0); v != (api.Vec{}) || e != want {
			t.Error("Line", g, l, k, v, e, want)
		}
	}
	order := make([]int, len(l))
	for k := range order {
		order[k] = k
	}
	for _, o := range [][]int{order, nil, {0, 0}, {-1}} {
		if m, e := Order(g, l, o); len(m) != 0 || e != want {
			t.Error("Order", g, l, o, m, e, want)
		}
	}
}

func TestP41CheckErrors(t *testing.T) {
	good := api.Globe{A: 6, B: 3}
	for n := range 11 {
		for _, g := range badGlobes {
			calls(t, g, mustArray(t, n), api.ErrArg)
		}
		if n > 8 {
			calls(t, good, mustArray(t, n), api.ErrMany)
		}
	}
	for k := range 8 {
		for _, name := range badNames {
			l := slices.Clone(mustArray(t, 8))
			l[k].Name = name
			calls(t, good, l, api.ErrBad)
		}
		for _, a := range slices.Concat(badFracs, outside) {
			l := slices.Clone(mustArray(t, 8))
			l[k].S = a
			calls(t, good, l, api.ErrBad)
			l = slices.Clone(mustArray(t, 8))
			l[k].T = a
			calls(t, good, l, api.ErrBad)
		}
		for _, s := range []string{"2", "-2", "20/19", "-20/19", "20", "-3/2"} {
			l := slices.Clone(mustArray(t, 8))
			l[k].S = read(s)
			calls(t, good, l, api.ErrBad)
		}
		l := slices.Clone(mustArray(t, 8))
		l[k] = api.Site{}
		calls(t, good, l, api.ErrBad)
	}
}

func TestP41Twice(t *testing.T) {
	for i := range 8 {
		for j := range i {
			for _, g := range goodGlobes {
				l := slices.Clone(mustArray(t, 8))
				l[i].Name = l[j].Name
				calls(t, g, l, api.ErrTwice)
				l = slices.Clone(mustArray(t, 8))
				l[i].S, l[i].T = l[j].S, l[j].T
				calls(t, g, l, api.ErrTwice)
				l[i] = l[j]
				calls(t, g, l, api.ErrTwice)
			}
		}
	}
	// A pole is the same place with each T.
	for _, g := range goodGlobes {
		calls(t, g, sitesOf("a 1 0", "b 1 1"), api.ErrTwice)
		calls(t, g, sitesOf("a -1 7/20", "b 0 0", "c -1 -20"), api.ErrTwice)
		if e := Check(g, sitesOf("a -1 5", "b 1 5")); e != api.OK {
			t.Error(g, e)
		}
	}
}

// TestR1Order has the errors of Check together.
func TestR1Order(t *testing.T) {
	good := api.Globe{A: 6, B: 3}
	twice := slices.Repeat(mustArray(t, 4), 2)
	invalid := append(slices.Clone(twice), api.Site{Name: "-"})
	calls(t, badGlobes[0], invalid, api.ErrArg)
	calls(t, good, invalid, api.ErrMany)
	calls(t, good, slices.Repeat(mustArray(t, 1), 9), api.ErrMany)
	calls(t, good, invalid[1:], api.ErrBad)
	calls(t, badGlobes[0], invalid[1:], api.ErrArg)
	calls(t, good, twice, api.ErrTwice)
	calls(t, badGlobes[0], twice, api.ErrArg)
	// What is not valid stands behind what is there twice.
	calls(t, good, append(sitesOf("a 0 0", "a 0 0"), api.Site{}), api.ErrBad)
}

func TestP41Places(t *testing.T) {
	g := api.Globe{A: 5, B: 5}
	p, e := Places(g, sitesOf("a 0 0", "b 0 1", "c 0 -1", "d 1 0", "e -1 0", "f 1/2 3"))
	want := []api.Vec{vecOf("5 0 0"), vecOf("0 5 0"), vecOf("0 -5 0"), vecOf("0 0 5"), vecOf("0 0 -5"), vecOf("-12/5 9/5 4")}
	if !slices.Equal(p, want) || e != api.OK {
		t.Error(p, e)
	}
	if p, e := Places(api.Globe{A: 6, B: 3}, sitesOf("x 1/2 0")); !slices.Equal(p, []api.Vec{vecOf("18/5 0 12/5")}) || e != api.OK {
		t.Error(p, e)
	}
	for _, l := range [][]api.Site{nil, {}} {
		if p, e := Places(g, l); len(p) != 0 || e != api.OK {
			t.Error(p, e)
		}
	}
}

func TestP42Line(t *testing.T) {
	g, l := api.Globe{A: 5, B: 5}, mustArray(t, 5)
	for _, c := range []struct {
		i, j int
		want string
	}{
		{0, 1, "-5 5 0"}, {1, 0, "5 -5 0"}, {0, 2, "-5 -5 0"}, {1, 2, "0 -10 0"}, {2, 1, "0 10 0"}, {3, 4, "0 0 -10"}, {4, 3, "0 0 10"}, {1, 3, "0 -5 5"}, {2, 4, "0 5 -5"}, {0, 4, "-5 0 -5"},
		{0, 0, "0 0 0"}, {4, 4, "0 0 0"},
	} {
		if v, e := Line(g, l, c.i, c.j); v != vecOf(c.want) || e != api.OK {
			t.Error(c, v, e)
		}
	}
	for n := range 9 {
		for _, bad := range []int{n, n + 1, 8, 9, -1, -n - 1, math.MinInt, math.MaxInt, 1 << 32, -1 << 32} {
			if bad >= 0 && bad < n {
				continue
			}
			for _, c := range [][2]int{{bad, 0}, {0, bad}, {bad, n - 1}, {n - 1, bad}, {bad, bad}} {
				if v, e := Line(g, mustArray(t, n), c[0], c[1]); v != (api.Vec{}) || e != api.ErrArg {
					t.Error(n, c, v, e)
				}
			}
		}
	}
}

func TestP42Pairs(t *testing.T) {
	for n := range 9 {
		var want []api.Pair
		for i := range n {
			for j := range n {
				if i < j {
					want = append(want, api.Pair{I: i, J: j})
				}
			}
		}
		if l, e := Pairs(n); !slices.Equal(l, want) || len(l) != n*(n-1)/2 || e != api.OK {
			t.Error(n, l, e)
		}
	}
	for _, n := range []int{-1, 9, 10, 64, -8, math.MinInt, math.MaxInt, 1 << 32} {
		if l, e := Pairs(n); len(l) != 0 || e != api.ErrArg {
			t.Error(n, l, e)
		}
	}
}

func TestP43Classes(t *testing.T) {
	g := api.Globe{A: 5, B: 5}
	c, e := Classes(g, mustArray(t, 5))
	want := []api.Class{
		{V: vecOf("-5 5 0"), Pairs: []api.Pair{{I: 0, J: 1}}},
		{V: vecOf("-5 -5 0"), Pairs: []api.Pair{{I: 0, J: 2}}},
		{V: vecOf("-5 0 5"), Pairs: []api.Pair{{I: 0, J: 3}}},
		{V: vecOf("-5 0 -5"), Pairs: []api.Pair{{I: 0, J: 4}}},
		{V: vecOf("0 -10 0"), Pairs: []api.Pair{{I: 1, J: 2}}},
		{V: vecOf("0 -5 5"), Pairs: []api.Pair{{I: 1, J: 3}, {I: 2, J: 4}}},
		{V: vecOf("0 -5 -5"), Pairs: []api.Pair{{I: 1, J: 4}, {I: 2, J: 3}}},
		{V: vecOf("0 0 -10"), Pairs: []api.Pair{{I: 3, J: 4}}},
	}
	if !sameClasses(c, want) || e != api.OK {
		t.Error(c, e)
	}
	for n, want := range []int{0, 0, 1} {
		if c, e := Classes(g, mustArray(t, n)); len(c) != want || e != api.OK {
			t.Error(n, c, e)
		}
	}
	// Of a prism over a triangle the three edges upright are in one class, and the sides of both triangles in one each.
	prism := sitesOf("a 1/3 0", "b 1/3 1", "c 1/3 -1", "d -1/3 0", "e -1/3 1", "f -1/3 -1")
	c, e = Classes(g, prism)
	if !sameClasses(c, wantClasses(g, prism)) || len(c) != 10 || e != api.OK {
		t.Fatal(c, e)
	}
	if up := (api.Class{V: vecOf("0 0 -6"), Pairs: []api.Pair{{I: 0, J: 3}, {I: 1, J: 4}, {I: 2, J: 5}}}); !sameClasses(c[2:3], []api.Class{up}) {
		t.Error(c[2])
	}
}

// TestP43SameLength has baselines that are neither equal nor opposite, but have the same length, or coordinates that are the same but for some signs.
func TestP43SameLength(t *testing.T) {
	g := api.Globe{A: 5, B: 5}
	for _, l := range [][]api.Site{sitesOf("o 0 0", "a 0 1", "b 0 -1"), sitesOf("o 1 0", "a 0 0", "b 0 1"), sitesOf("o 0 0", "a 0 1/2", "b 0 -1/2"), sitesOf("o 0 0", "a 1/2 0", "b -1/2 0")} {
		if c, e := Classes(g, l); len(c) != 3 || e != api.OK {
			t.Error(l, c, e)
		}
	}
}

func TestP44Order(t *testing.T) {
	g := api.Globe{A: 5, B: 5}
	l := mustArray(t, 3)
	for _, c := range []struct {
		order []int
		want  string
	}{
		{[]int{0, 1, 2}, "abc"}, {[]int{2, 0, 1}, "cab"}, {[]int{1, 2, 0}, "bca"}, {[]int{0, 2, 1}, "acb"},
	} {
		m, e := Order(g, l, c.order)
		if len(m) != 3 || e != api.OK {
			t.Error(c, m, e)
			continue
		}
		for k, x := range m {
			if x.Name != c.want[k:k+1] || x != l[c.order[k]] {
				t.Error(c, m)
			}
		}
	}
	for _, o := range [][]int{nil, {}} {
		if m, e := Order(g, nil, o); len(m) != 0 || e != api.OK {
			t.Error(m, e)
		}
	}
}

func TestP44OrderErrors(t *testing.T) {
	g := api.Globe{A: 5, B: 5}
	for _, o := range [][]int{
		nil, {}, {0}, {0, 1}, {0, 1, 2, 3}, {0, 1, 2, 0}, {0, 0, 1, 2}, {0, 0, 0}, {0, 0, 1}, {0, 1, 1}, {2, 1, 2}, {1, 2, 3}, {-1, 0, 1}, {0, 1, -2}, {0, 1, 3}, {0, 1, 8},
		{math.MinInt, 1, 2}, {0, math.MaxInt, 2}, {0, 1, 1 << 32}, {0, 1, 2 + 1<<32}, slices.Repeat([]int{0, 1, 2}, 1000),
	} {
		if m, e := Order(g, mustArray(t, 3), o); len(m) != 0 || e != api.ErrArg {
			t.Error(o, m, e)
		}
	}
	for _, o := range [][]int{{0}, {-1}, {0, 1}} {
		if m, e := Order(g, nil, o); len(m) != 0 || e != api.ErrArg {
			t.Error(o, m, e)
		}
	}
}
