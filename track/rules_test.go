package track

import (
	"math"
	"math/big"
	"slices"
	"testing"

	"fringe/api"
)

func mustAt(t *testing.T, s api.Source, tick int) api.Dir {
	t.Helper()
	d, e := At(s, tick)
	if e != api.OK {
		t.Fatal(s, tick, e)
	}
	return d
}

// TestP65Turning has a direction after a turn, and after a quarter of one.
func TestP65Turning(t *testing.T) {
	d := dice(5)
	for k := range 20000 {
		s, tick := d.source(), d.tick()
		if k%4 == 0 {
			tick = k / 4 % 720
		}
		if tick > 999280 {
			tick -= 720
		}
		a, b, c := mustAt(t, s, tick), mustAt(t, s, tick+720), mustAt(t, s, tick+180)
		if a != b {
			t.Error("not the same", s, tick, a, b)
		}
		if want := (api.Dir{X: a.Y, Y: opposite(a.X), Z: a.Z}); c != want {
			t.Error("no quarter", s, tick, a, c)
		}
	}
}

// TestP65Itself has 1 in the dot product of each direction with itself.
func TestP65Itself(t *testing.T) {
	for dec := -180; dec <= 180; dec++ {
		for k := range 90 {
			d := mustAt(t, source((8*k+dec+180)%720, dec), 0)
			a, e := Dot(d, d)
			if a.Lo > 1000000 || a.Hi < 1000000 || a.Hi-a.Lo > 20 || e != api.OK {
				t.Error(dec, k, a, e)
			}
		}
	}
}

// TestP65Apart compares the dot product of two directions with how far two sources are apart.
func TestP65Apart(t *testing.T) {
	d := dice(6)
	for k := range 20000 {
		s, r, tick := d.source(), d.source(), d.tick()
		if k%5 == 0 {
			r = source((s.Ra+d.below(3))%720, max(s.Dec-d.below(3), -180))
		}
		a, e := Apart(s, r)
		b, f := Dot(mustAt(t, s, tick), mustAt(t, r, tick))
		if !meet(a, b) || b.Hi-b.Lo > 20 || e != api.OK || f != api.OK {
			t.Error(s, r, tick, a, b, e, f)
		}
	}
}

func plus(v, w api.Vec) api.Vec {
	add := func(a, b api.Frac) api.Frac { return fraction(new(big.Rat).Add(exact(a), exact(b))) }
	return api.Vec{X: add(v.X, w.X), Y: add(v.Y, w.Y), Z: add(v.Z, w.Z)}
}

// TestP65Sums has a number in common between what is along a sum, and what is along both.
func TestP65Sums(t *testing.T) {
	d := dice(7)
	for range 20000 {
		a := mustAt(t, d.source(), d.tick())
		bound := 1 + 500>>d.below(10)
		// Small denominators, as the sum of two fractions has to be one.
		v, w := d.vec(bound, 24), d.vec(bound, 24)
		x, e := Along(a, v)
		y, f := Along(a, w)
		z, g := Along(a, plus(v, w))
		if e != api.OK || f != api.OK || g != api.OK {
			t.Error(a, v, w, e, f, g)
		}
		if !meet(span(x.Lo+y.Lo, x.Hi+y.Hi), z) {
			t.Error(a, v, w, x, y, z)
		}
	}
}

// TestR2New overwrites results up to their capacity, and asks again.
func TestR2New(t *testing.T) {
	s := source(5, 33)
	for _, many := range []int{1, 7, 100} {
		want := wantPath(t, s, 20, 3, many)
		for range 3 {
			l, e := Path(s, 20, 3, many)
			if !slices.Equal(l, want) || e != api.OK {
				t.Error(many, l, e)
			}
			l = l[:cap(l)]
			for k := range l {
				l[k] = api.Dir{X: span(7, 7)}
			}
		}
	}
	a, _ := Path(s, 20, 3, 10)
	b, _ := Path(s, 20, 3, 10)
	clear(a[:cap(a)])
	if !slices.Equal(b, wantPath(t, s, 20, 3, 10)) {
		t.Error("shared", b)
	}
}

// TestR7NeverPanics calls everything with numbers of any size; results and errors are compared with their definitions.
func TestR7NeverPanics(t *testing.T) {
	numbers := []int{math.MinInt, math.MinInt + 1, -1 << 32, -1000001, -1000000, -721, -720, -181, -180, -1, 0, 1, 100, 101, 180, 181, 719, 720, 721, 1000000, 1000001, 1 << 32, math.MaxInt - 1, math.MaxInt}
	ends := []int64{math.MinInt64, -most - 1, -most, -limit - 1, -limit, -1000001, -1000000, -1, 0, 1, 1000000, 1000001, limit, limit + 1, most, most + 1, math.MaxInt64}
	d := dice(8)
	some := func() int { return numbers[d.below(len(numbers))] }
	end := func() int64 { return ends[d.below(len(ends))] }
	span := func() api.Span { return api.Span{Lo: end(), Hi: end()} }
	many := map[api.Errno]int{}
	for k := range 60000 {
		s := api.Source{Name: "a", Ra: some(), Dec: some()}
		tick := some()
		want, code := api.Dir{}, api.OK
		if !wantSource(s) {
			code = api.ErrBad
		} else if tick < -1000000 || tick > 1000000 {
			code = api.ErrArg
		} else {
			want = wantAt(s, tick)
		}
		if v, e := At(s, tick); v != want || e != code {
			t.Error("At", s, tick, v, e)
		}
		step, count := some(), some()
		l, e := Path(s, tick, step, count)
		many[e]++
		if e != api.OK && len(l) != 0 || e == api.OK && len(l) != count || code == api.ErrBad && e != code {
			t.Error("Path", s, tick, step, count, l, e)
		}
		if a, e := Apart(s, source(1, 2)); (e != api.OK) != (code == api.ErrBad) || e != api.OK && a != (api.Span{}) {
			t.Error("Apart", s, a, e)
		}
		a, b := api.Dir{X: span(), Y: span(), Z: span()}, d.dir(1+k%32)
		v := api.Vec{X: api.Frac{Num: end(), Den: end()}, Y: api.Frac{Num: end(), Den: end()}, Z: api.Frac{Num: end(), Den: end()}}
		for _, c := range []api.Dir{a, b} {
			n, e := Dot(a, c)
			if want, code := wantDots(a, c); n != want || e != code {
				t.Error("Dot", a, c, n, e)
			}
			n, e = Along(c, v)
			if want, code := wantAlong(c, v); n != want || e != code {
				t.Error("Along", c, v, n, e)
			}
		}
	}
	for _, e := range []api.Errno{api.OK, api.ErrArg, api.ErrMany, api.ErrBad} {
		if many[e] < 100 {
			t.Error("one-sided", e, many)
		}
	}
}
