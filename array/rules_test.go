package array

import (
	"math"
	"slices"
	"testing"

	"fringe/api"
)

// TestP46Anywhere compares with big numbers, and has the theorems of baselines, of classes and of orders.
func TestP46Anywhere(t *testing.T) {
	d := dice(2)
	equal := 0
	for k := range 1500 {
		g := d.globe()
		l := d.array(g, k%9, k%4 != 0)
		n := len(l)
		lines := linesOf(t, g, l)
		for i := range n {
			for j := range n {
				if lines[i][j] != wantLine(g, l, i, j).vec() {
					t.Error("Line", g, l, i, j, lines[i][j])
				}
				for m := range n {
					if plus(lines[i][j], lines[j][m]) != lines[i][m] {
						t.Error("triangle", g, l, i, j, m)
					}
				}
				if plus(lines[i][j], lines[j][i]) != vecOf("0 0 0") {
					t.Error("not opposite", g, l, i, j)
				}
			}
		}
		c, e := Classes(g, l)
		if !sameClasses(c, wantClasses(g, l)) || e != api.OK {
			t.Error("Classes", g, l, c, e)
		}
		if len(c) < n*(n-1)/2 {
			equal++
		}
		eachOnce(t, n, c)
		reordered(t, g, l, c, d.order(n))
	}
	if equal < 100 {
		t.Error("too few have equal baselines:", equal)
	}
}

func linesOf(t *testing.T, g api.Globe, l []api.Site) [8][8]api.Vec {
	t.Helper()
	var lines [8][8]api.Vec
	p, e := Places(g, l)
	if len(p) != len(l) || e != api.OK {
		t.Fatal("Places", g, l, p, e)
	}
	for i := range l {
		if p[i] != wantPlace(g, l[i]).vec() {
			t.Error("Places", g, l, i, p[i])
		}
		for j := range l {
			if lines[i][j], e = Line(g, l, i, j); e != api.OK {
				t.Error("Line", g, l, i, j, e)
			}
		}
	}
	return lines
}

func plus(v, w api.Vec) api.Vec {
	p, q := triple{exact(v.X), exact(v.Y), exact(v.Z)}, triple{exact(w.X), exact(w.Y), exact(w.Z)}
	for k := range p {
		p[k].Add(p[k], q[k])
	}
	return p.vec()
}

// eachOnce has each pair in just one class.
func eachOnce(t *testing.T, n int, classes []api.Class) {
	t.Helper()
	var all []api.Pair
	for _, c := range classes {
		all = append(all, c.Pairs...)
	}
	slices.SortFunc(all, before)
	if pairs, e := Pairs(n); !slices.Equal(all, pairs) || e != api.OK {
		t.Error("not just once", n, classes)
	}
}

// reordered puts an array into another order: names and places go with it, and classes have the same vectors up to their sign, and the same pairs.
func reordered(t *testing.T, g api.Globe, l []api.Site, classes []api.Class, order []int) {
	t.Helper()
	m, e := Order(g, l, order)
	if len(m) != len(l) || e != api.OK {
		t.Error("Order", g, l, order, m, e)
		return
	}
	old, _ := Places(g, l)
	places, _ := Places(g, m)
	for k, i := range order {
		if m[k] != l[i] || places[k] != old[i] {
			t.Error("Order", g, l, order, k, m[k])
		}
	}
	again, e := Classes(g, m)
	if len(again) != len(classes) || e != api.OK {
		t.Error("Classes", g, l, order, again, e)
	}
	vectors := map[string]int{}
	for _, c := range classes {
		vectors[sizeOf(c.V)] = len(c.Pairs)
	}
	for _, c := range again {
		if vectors[sizeOf(c.V)] != len(c.Pairs) {
			t.Error("another class", g, l, order, c)
		}
	}
}

func sizeOf(v api.Vec) string { return triple{exact(v.X), exact(v.Y), exact(v.Z)}.size() }

// TestR2ReadOnly looks at arguments and at the memory behind them, in calls with an error, too.
func TestR2ReadOnly(t *testing.T) {
	for n := range 11 {
		for _, g := range []api.Globe{{A: 5, B: 5}, {}} {
			for _, twice := range []bool{false, true} {
				all := slices.Clone(mustArray(t, 10))
				order := []int{0, 1, 2, 3, 4, 5, 6, 7, 8, 9}
				slices.Reverse(order[:n])
				if twice {
					all[0], order[9] = all[9], 0
				}
				oldSites, oldOrder := slices.Clone(all), slices.Clone(order)
				l := all[:n]
				Check(g, l)
				Places(g, l)
				Line(g, l, 0, 1)
				Classes(g, l)
				Order(g, l, order[:n])
				Order(g, l, order)
				Text(l)
				if !slices.Equal(all, oldSites) || !slices.Equal(order, oldOrder) {
					t.Error(n, g, twice, "changed")
				}
			}
		}
	}
}

// TestR2New overwrites results up to their capacity: neither the arguments change, nor other results, nor other parts of the same one.
func TestR2New(t *testing.T) {
	g := api.Globe{A: 5, B: 5}
	l := slices.Clone(mustArray(t, 8))
	order := []int{7, 6, 5, 4, 3, 2, 1, 0}
	for range 2 {
		p, _ := Places(g, l)
		fill(p, api.Vec{})
		pairs, _ := Pairs(8)
		fill(pairs, api.Pair{I: -1})
		m, _ := Order(g, l, order)
		fill(m, api.Site{})
		s, _ := Text(l)
		r, _ := Parse(s)
		fill(r, api.Site{})
		c, _ := Classes(g, l)
		for k := range c {
			want := wantClasses(g, l)[k]
			if c[k].V != want.V || !slices.Equal(c[k].Pairs, want.Pairs) {
				t.Error("shared", k, c[k])
			}
			fill(c[k].Pairs, api.Pair{I: -1})
		}
		fill(c, api.Class{})
		if !slices.Equal(l, mustArray(t, 8)) || !slices.Equal(order, []int{7, 6, 5, 4, 3, 2, 1, 0}) {
			t.Error("changed", l, order)
		}
	}
	same, _ := Order(g, l, []int{0, 1, 2, 3, 4, 5, 6, 7})
	fill(same, api.Site{})
	if !slices.Equal(l, mustArray(t, 8)) {
		t.Error("changed by the order that changes nothing", l)
	}
	if pairs, e := Pairs(2); !slices.Equal(pairs, []api.Pair{{I: 0, J: 1}}) || e != api.OK {
		t.Error(pairs, e)
	}
}

func fill[T any](l []T, x T) {
	l = l[:cap(l)]
	for k := range l {
		l[k] = x
	}
}

// TestR3Empty has nil and empty lists with the same results.
func TestR3Empty(t *testing.T) {
	g := api.Globe{A: 1, B: 1}
	for _, l := range [][]api.Site{nil, {}, mustArray(t, 3)[:0]} {
		p, e := Places(g, l)
		c, f := Classes(g, l)
		m, h := Order(g, l, []int{})
		s, i := Text(l)
		if len(p) != 0 || len(c) != 0 || len(m) != 0 || s != "" || e != api.OK || f != api.OK || h != api.OK || i != api.OK {
			t.Error(l, p, c, m, s, e, f, h, i)
		}
		if e := Check(g, l); e != api.OK {
			t.Error(l, e)
		}
		if v, e := Line(g, l, 0, 0); v != (api.Vec{}) || e != api.ErrArg {
			t.Error(l, v, e)
		}
	}
}

// TestR7NeverPanics calls everything with values of any size, valid or not; Check and the text are compared with their definitions.
func TestR7NeverPanics(t *testing.T) {
	numbers := []int64{math.MinInt64, -most - 1, -most, -21, -20, -1, 0, 1, 2, 3, 20, 21, most, most + 1, math.MaxInt64}
	whole := []int{math.MinInt, -1, 0, 1, 2, 3, 7, 8, 9, 1000, 1001, math.MaxInt}
	d := dice(3)
	many := map[api.Errno]int{}
	any := func() int { return whole[d.below(len(whole))] }
	spoil := func(x *api.Site) {
		a := api.Frac{Num: numbers[d.below(len(numbers))], Den: numbers[d.below(len(numbers))]}
		switch d.below(3) {
		case 0:
			x.Name = badNames[d.below(len(badNames))]
		case 1:
			x.S = a
		default:
			x.T = a
		}
	}
	for range 8000 {
		g := d.globe()
		if d.below(10) == 0 {
			g = api.Globe{A: any(), B: any()}
		}
		var l []api.Site
		for range d.below(11) {
			l = append(l, d.site(d.below(3) == 0))
		}
		if len(l) > 0 && d.below(4) == 0 {
			spoil(&l[d.below(len(l))])
		}
		want := wantCheck(g, l)
		many[want]++
		if e := Check(g, l); e != want {
			t.Error(g, l, e, want)
		}
		if want != api.OK {
			calls(t, g, l, want)
		}
		Line(g, l, any(), any())
		Pairs(any())
		Order(g, l, []int{any(), any(), any()})
		if s, e := Text(l); e != api.OK && s != "" || e == api.OK && s != wantText(l) {
			t.Error("Text", l, s, e)
		}
	}
	for _, e := range []api.Errno{api.OK, api.ErrArg, api.ErrMany, api.ErrBad, api.ErrTwice} {
		if many[e] < 200 {
			t.Error("one-sided", e, many)
		}
	}
}
