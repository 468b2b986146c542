package track

import (
	"math"
	"slices"
	"strings"
	"testing"

	"fringe/api"
)

func span(lo, hi int64) api.Span { return api.Span{Lo: lo, Hi: hi} }

func TestP61CheckGood(t *testing.T) {
	for _, name := range goodNames {
		for _, ra := range []int{0, 1, 5, 180, 359, 360, 718, 719} {
			for _, dec := range []int{-180, -179, -1, 0, 1, 90, 179, 180} {
				if e := Check(api.Source{Name: name, Ra: ra, Dec: dec}); e != api.OK {
					t.Error(name, ra, dec, e)
				}
			}
		}
	}
}

// TestP61CheckBytes has each byte as a name, and at the second and at the last place of one.
func TestP61CheckBytes(t *testing.T) {
	for c := range 256 {
		for _, s := range []string{string([]byte{byte(c)}), string([]byte{'k', byte(c)}), string([]byte{'k', byte(c), 'k'}), strings.Repeat("k", 39) + string([]byte{byte(c)})} {
			x := api.Source{Name: s}
			if e := Check(x); (e == api.OK) != wantSource(x) || e != api.OK && e != api.ErrBad {
				t.Errorf("%q %v", s, e)
			}
		}
	}
}

// calls calls everything with a source that is not valid, also where other arguments are wrong, too.
func calls(t *testing.T, s api.Source) {
	t.Helper()
	if e := Check(s); e != api.ErrBad {
		t.Error("Check", s, e)
	}
	for _, tick := range []int{0, -1000001, 1000001, math.MinInt, math.MaxInt} {
		if d, e := At(s, tick); d != (api.Dir{}) || e != api.ErrBad {
			t.Error("At", s, tick, d, e)
		}
		for _, many := range []int{1, 0, -1, 101, math.MinInt, math.MaxInt} {
			for _, step := range []int{1, 0, 721} {
				if l, e := Path(s, tick, step, many); len(l) != 0 || e != api.ErrBad {
					t.Error("Path", s, tick, step, many, l, e)
				}
			}
		}
	}
	for _, c := range [][2]api.Source{{s, source(1, 2)}, {source(1, 2), s}, {s, s}} {
		if a, e := Apart(c[0], c[1]); a != (api.Span{}) || e != api.ErrBad {
			t.Error("Apart", c, a, e)
		}
	}
}

func TestP61BadFirst(t *testing.T) {
	for _, s := range badSources() {
		calls(t, s)
	}
}

func TestP61Examples(t *testing.T) {
	const one, half = 1000000, 500000
	for _, c := range []struct {
		ra, dec, tick int
		want          api.Dir
	}{
		{0, 0, 0, api.Dir{X: span(one, one)}},
		{0, 0, 180, api.Dir{Y: span(-one, -one)}},
		{0, 0, 360, api.Dir{X: span(-one, -one)}},
		{0, 0, -180, api.Dir{Y: span(one, one)}},
		{180, 0, 0, api.Dir{Y: span(one, one)}},
		{180, 0, 180, api.Dir{X: span(one, one)}},
		{719, 0, 719, api.Dir{X: span(one, one)}},
		{719, 0, -1, api.Dir{X: span(one, one)}},
		{0, 60, 0, api.Dir{X: span(866025, 866026), Z: span(half, half)}},
		{0, -60, 0, api.Dir{X: span(866025, 866026), Z: span(-half, -half)}},
		{0, 60, 360, api.Dir{X: span(-866026, -866025), Z: span(half, half)}},
		{0, 60, 60, api.Dir{X: span(749999, 750002), Y: span(-433013, -433012), Z: span(half, half)}},
		{0, 90, 90, api.Dir{X: span(499998, 500001), Y: span(-500001, -499998), Z: span(707106, 707107)}},
		{7, 120, 247, api.Dir{X: span(-250000, -250000), Y: span(-433013, -433012), Z: span(866025, 866026)}},
	} {
		if d, e := At(source(c.ra, c.dec), c.tick); d != c.want || e != api.OK {
			t.Error(c, d, e)
		}
	}
	for _, tick := range []int{-1000000, -720, -77, 0, 1, 300, 1000000} {
		for _, ra := range []int{0, 1, 359, 719} {
			if d, e := At(source(ra, 180), tick); d != (api.Dir{Z: span(one, one)}) || e != api.OK {
				t.Error(ra, tick, d, e)
			}
			if d, e := At(source(ra, -180), tick); d != (api.Dir{Z: span(-one, -one)}) || e != api.OK {
				t.Error(ra, tick, d, e)
			}
		}
	}
}

// TestP61All compares the directions of all declinations with their definition; each longitude comes with some of them.
func TestP61All(t *testing.T) {
	for dec := -180; dec <= 180; dec++ {
		for k := range 144 {
			tick := -5*k - (dec+180)%5
			s := source((k*7+dec+180)%720, dec)
			d, e := At(s, tick)
			if d != wantAt(s, tick) || e != api.OK {
				t.Error(s, tick, d, e, wantAt(s, tick))
			}
			c, l := math.Cos(angle(dec)), angle(s.Ra-tick)
			if !has(d.X, c*math.Cos(l)) || !has(d.Y, c*math.Sin(l)) || !has(d.Z, math.Sin(angle(dec))) {
				t.Error("not there", s, tick, d)
			}
			if d.X.Hi-d.X.Lo > 4 || d.Y.Hi-d.Y.Lo > 4 || d.Z.Hi-d.Z.Lo > 1 {
				t.Error("wide", s, tick, d)
			}
		}
	}
}

func TestP61Ticks(t *testing.T) {
	d := dice(1)
	for range 3000 {
		s, tick := d.source(), d.tick()
		if v, e := At(s, tick); v != wantAt(s, tick) || e != api.OK {
			t.Error(s, tick, v, e, wantAt(s, tick))
		}
	}
	for _, tick := range []int{-1000000, -999999, 999999, 1000000} {
		if v, e := At(source(3, 50), tick); v != wantAt(source(3, 50), tick) || e != api.OK {
			t.Error(tick, v, e)
		}
	}
	for _, tick := range []int{-1000001, 1000001, -1000720, 1000720, math.MinInt, math.MinInt + 1, math.MaxInt, 1 << 32, -1 << 32} {
		if v, e := At(source(3, 50), tick); v != (api.Dir{}) || e != api.ErrArg {
			t.Error(tick, v, e)
		}
	}
}

// TestP61NameIsNotSeen has sources with other names in the same directions.
func TestP61NameIsNotSeen(t *testing.T) {
	for _, name := range goodNames {
		if d, e := At(api.Source{Name: name, Ra: 77, Dec: -33}, 5); d != wantAt(source(77, -33), 5) || e != api.OK {
			t.Error(name, d, e)
		}
	}
}

// wantPath is what At gives, one direction after the other.
func wantPath(t *testing.T, s api.Source, from, step, many int) []api.Dir {
	t.Helper()
	var l []api.Dir
	for k := 0; k < many; k++ {
		if d, e := At(s, from+k*step); e == api.OK {
			l = append(l, d)
		} else {
			t.Error("At", s, from+k*step, e)
		}
	}
	return l
}

func TestP62Path(t *testing.T) {
	d := dice(2)
	for _, many := range []int{0, 1, 2, 3, 99, 100} {
		for _, step := range []int{1, 2, 180, 719, 720} {
			last := step * max(many-1, 0)
			for _, from := range []int{-1000000, -1, 0, 5, 1000000 - last} {
				s := d.source()
				if l, e := Path(s, from, step, many); !slices.Equal(l, wantPath(t, s, from, step, many)) || len(l) != many || e != api.OK {
					t.Error(s, from, step, many, l, e)
				}
			}
		}
	}
	want := []api.Dir{{X: span(1000000, 1000000)}, {Y: span(-1000000, -1000000)}, {X: span(-1000000, -1000000)}, {Y: span(1000000, 1000000)}}
	if l, e := Path(source(0, 0), 0, 180, 4); !slices.Equal(l, want) || e != api.OK {
		t.Error(l, e)
	}
	for _, from := range []int{-1000000, 0, 1000000} {
		if l, e := Path(source(0, 0), from, 720, 0); len(l) != 0 || e != api.OK {
			t.Error(from, l, e)
		}
		if l, e := Path(source(9, 9), from, 720, 1); !slices.Equal(l, wantPath(t, source(9, 9), from, 720, 1)) || e != api.OK {
			t.Error(from, l, e)
		}
	}
}

func TestP62Many(t *testing.T) {
	for _, many := range []int{-1, -2, 101, 102, 1000, math.MinInt, math.MaxInt, 1 << 32} {
		// What else is wrong comes after it.
		for _, from := range []int{0, -1000001, 1000000, math.MinInt, math.MaxInt} {
			for _, step := range []int{1, 0, -1, 721, math.MinInt, math.MaxInt} {
				if l, e := Path(source(1, 2), from, step, many); len(l) != 0 || e != api.ErrMany {
					t.Error(from, step, many, l, e)
				}
			}
		}
	}
}

func TestP62Arg(t *testing.T) {
	bad := func(from, step, many int) {
		t.Helper()
		if l, e := Path(source(1, 2), from, step, many); len(l) != 0 || e != api.ErrArg {
			t.Error(from, step, many, l, e)
		}
	}
	for _, many := range []int{0, 1, 2, 100} {
		for _, step := range []int{0, -1, -720, 721, 1440, math.MinInt, math.MaxInt, 1 << 32, 1<<32 + 1} {
			for _, from := range []int{0, 1000, -1000000, 1000000, 1000001} {
				bad(from, step, many)
			}
		}
		for _, from := range []int{-1000001, -1000720, 1000001, math.MinInt, math.MaxInt, 1 << 32} {
			for _, step := range []int{1, 720, 721} {
				bad(from, step, many)
			}
		}
	}
	for _, step := range []int{1, 7, 720} {
		for _, many := range []int{2, 3, 100} {
			bad(1000000-step*(many-1)+1, step, many)
			bad(1000000, step, many)
		}
	}
}

func TestP64Examples(t *testing.T) {
	for _, c := range []struct {
		a, b api.Source
		want api.Span
	}{
		{source(0, 0), source(0, 0), span(1000000, 1000000)},
		{source(0, 0), source(360, 0), span(-1000000, -1000000)},
		{source(0, 0), source(180, 0), api.Span{}},
		{source(0, 0), source(120, 0), span(500000, 500000)},
		{source(120, 0), source(0, 0), span(500000, 500000)},
		{source(719, 0), source(0, 0), span(999961, 999962)},
		{source(0, 0), source(0, 90), span(707106, 707107)},
		{source(0, 90), source(0, 90), span(999996, 1000002)},
		{source(0, -90), source(0, 90), span(-3, 3)},
		{source(17, 180), source(300, 60), span(500000, 500000)},
		{source(0, 60), source(444, 180), span(500000, 500000)},
		{source(0, -180), source(444, 60), span(-500000, -500000)},
		{source(0, 180), source(444, -180), span(-1000000, -1000000)},
		{source(0, 120), source(120, 120), span(874999, 875002)},
	} {
		if a, e := Apart(c.a, c.b); a != c.want || e != api.OK {
			t.Error(c, a, e)
		}
	}
}

func TestP64Anywhere(t *testing.T) {
	d := dice(3)
	ordered := 0
	for k := range 20000 {
		a, b := d.source(), d.source()
		if k%10 == 0 {
			b.Ra = a.Ra
		}
		if k%15 == 0 {
			b.Dec = a.Dec
		}
		n, e := Apart(a, b)
		if n != wantApart(a, b) || e != api.OK {
			t.Error(a, b, n, e, wantApart(a, b))
		}
		up, across := math.Sin(angle(a.Dec))*math.Sin(angle(b.Dec)), math.Cos(angle(a.Dec))*math.Cos(angle(b.Dec))
		if !has(n, up+across*math.Cos(angle(a.Ra-b.Ra))) || n.Hi-n.Lo > 12 {
			t.Error("not there", a, b, n)
		}
		if m, e := Apart(b, a); m != n || e != api.OK {
			t.Error("not the same from both", a, b, n, m, e)
		}
		// What the order of the factors changes is compared, too.
		late := cosOf(b.Dec).times(cosOf(a.Ra - b.Ra)).times(cosOf(a.Dec))
		if s, _ := sinOf(a.Dec).times(sinOf(b.Dec)).plus(late).span(); s != n {
			ordered++
		}
	}
	if ordered < 1000 {
		t.Error("one-sided", ordered)
	}
}
