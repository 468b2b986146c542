package rise

import (
	"slices"
	"testing"

	"fringe/api"
)

var ball = api.Globe{A: 1, B: 1}

// equator is a station at (1, 0, 0) on the ball.
var equator = site("x 0 0")

func TestP71Examples(t *testing.T) {
	tall, flat, even := api.Globe{A: 1, B: 1000}, api.Globe{A: 1000, B: 1}, api.Globe{A: 3, B: 4}
	for _, c := range []struct {
		g       api.Globe
		x       string
		ra, dec int
		tick    int
		limit   string
		want    int
	}{
		{ball, "x 0 0", 0, 0, 0, "1/2", 1},
		{ball, "x 0 0", 0, 0, 0, "9/10", 1},
		{ball, "x 0 0", 0, 0, 120, "1/2", 0},
		{ball, "x 0 0", 0, 0, 120, "2/5", 1},
		{ball, "x 0 0", 0, 0, 120, "3/5", -1},
		{ball, "x 0 0", 0, 0, 200, "0", -1},
		// overhead: the least height may be just below, but not the height itself
		{ball, "x 0 0", 0, 0, 0, "1", 0},
		{ball, "x 0 0", 0, 0, 0, "999/1000", 1},
		{ball, "x 0 0", 0, 0, 1, "999/1000", 1},
		{ball, "x 0 0", 0, 0, 1, "1", -1},
		// in the horizon itself, and next to it
		{ball, "x 0 0", 0, 0, 180, "0", 0},
		{ball, "x 0 0", 0, 0, 180, "1/1000", -1},
		{ball, "x 0 0", 0, 0, 179, "0", 1},
		{ball, "x 0 0", 0, 0, 181, "0", -1},
		{ball, "x 0 0", 0, 180, 77, "0", 0},
		{ball, "x 1 0", 0, 0, 77, "0", 0},
		// below it the height counts, not its square
		{ball, "x 0 0", 0, 0, 360, "1/2", -1},
		{ball, "x 0 0", 0, 0, 360, "0", -1},
		{ball, "x 0 0", 0, 0, 240, "1/2", -1},
		// at the poles and at the east
		{ball, "x 1 0", 0, 180, -5, "999/1000", 1},
		{ball, "x 1 7", 0, 60, 300, "499/1000", 1},
		{ball, "x 1 7", 0, 60, 300, "1/2", 0},
		{ball, "x 1 7", 0, 60, 300, "501/1000", -1},
		{ball, "x -1 0", 0, 180, -5, "0", -1},
		{ball, "x -1 0", 0, -60, 11, "499/1000", 1},
		{ball, "x 0 1", 180, 0, 0, "999/1000", 1},
		{ball, "x 0 1", 0, 0, -180, "999/1000", 1},
		{ball, "x 0 -1", 180, 0, 0, "0", -1},
		// the shape of the globe turns what is upright, except at the equator and at the poles
		{tall, "x 1/2 0", 0, 0, 0, "999/1000", 1},
		{tall, "x 1/2 0", 0, 180, 0, "1/100", -1},
		{tall, "x 1/2 0", 0, 180, 0, "1/1000", 0},
		{flat, "x 1/2 0", 0, 180, 0, "999/1000", 1},
		{flat, "x 1/2 0", 0, 0, 0, "1/100", -1},
		{flat, "x 1/2 0", 0, 0, 0, "1/1000", 0},
		// in the horizon, which only an enclosure with both signs tells
		{even, "x 1/2 0", 360, 90, 0, "0", 0},
		{even, "x 1/2 0", 360, 90, 0, "1/100", -1},
		{even, "x 1/2 0", 360, 91, 0, "0", 1},
		{even, "x 1/2 0", 360, 89, 0, "0", -1},
	} {
		if n, e := State(c.g, site(c.x), source(c.ra, c.dec), c.tick, read(c.limit)); n != c.want || e != api.OK {
			t.Error(c, n, e)
		}
	}
}

// TestP71Anywhere compares with big numbers; many limits are as near to the height as they can be.
func TestP71Anywhere(t *testing.T) {
	d := dice(1)
	many, near := map[int]int{}, map[int]int{}
	for k := range 12000 {
		g, x, s, tick := d.globe(), d.site("x", 20), d.source(), d.tick()
		if k%7 == 0 {
			g = goodGlobes[d.below(len(goodGlobes))]
		}
		limit := d.limit()
		height := sineOf(g, x, s, tick)
		if k%2 == 0 {
			// Enclosures are some millionths wide.
			limit = nearest(height + float64(d.below(11)-5)*0.000003)
		}
		want := wantState(g, x, s, tick, limit)
		if n, e := State(g, x, s, tick, limit); n != want || e != api.OK {
			t.Error(g, x, s, tick, limit, n, e, want)
		}
		if k%2 == 0 && height > 0 {
			near[want]++
		}
		many[want]++
		// What is decided is true.
		least, _ := exact(limit).Float64()
		if want == 1 && height <= least || want == -1 && height >= least {
			t.Error("not true", g, x, s, tick, limit, want, height)
		}
	}
	if many[1] < 1000 || many[-1] < 1000 || near[0] < 500 || near[1] < 500 || near[-1] < 500 {
		t.Error("one-sided", many, near)
	}
}

// TestP71Uprights has the longest numbers of uprights: all S with some T, and all T with some S, on the globes at the ends.
func TestP71Uprights(t *testing.T) {
	d := dice(2)
	steep, wide := []string{"0", "1", "-1", "19/20", "-18/19", "1/20"}, []string{"0", "1", "20/19", "-19/20", "20", "-1/20"}
	for num := int64(-20); num <= 20; num++ {
		for den := int64(1); den <= 20; den++ {
			u := cut(num, den)
			if exact(u).Denom().Int64() != den {
				continue
			}
			g, s, tick, k := goodGlobes[d.below(len(goodGlobes))], d.source(), d.below(720), d.below(6)
			l := []api.Site{{Name: "x", S: read(steep[k]), T: u}}
			if num >= -den && num <= den {
				l = append(l, api.Site{Name: "x", S: u, T: read(wide[k])})
			}
			for _, x := range l {
				limit := nearest(sineOf(g, x, s, tick))
				if n, e := State(g, x, s, tick, limit); n != wantState(g, x, s, tick, limit) || e != api.OK {
					t.Error(g, x, s, tick, limit, n, e)
				}
			}
		}
	}
}

func TestP71Limits(t *testing.T) {
	for _, limit := range []api.Frac{cut(0, 1), cut(1, 1), cut(1, 1000), cut(999, 1000), cut(1, 999), cut(1, 2), cut(998, 999)} {
		if n, e := State(ball, equator, source(0, 0), 120, limit); n != wantState(ball, equator, source(0, 0), 120, limit) || e != api.OK {
			t.Error(limit, n, e)
		}
	}
	for _, limit := range badLimits {
		for _, tick := range append([]int{0, 5}, badTicks...) {
			if n, e := State(ball, equator, source(0, 0), tick, limit); n != 0 || e != api.ErrBad {
				t.Error(limit, tick, n, e)
			}
			// Wrong times come after it.
			for _, from := range []int{0, tick, tick + 1} {
				l, e := Windows(ball, equator, source(0, 0), from, tick, limit)
				m, f := All(ball, some(3), source(0, 0), from, tick, limit)
				r, h := All(ball, nil, source(0, 0), from, tick, limit)
				if len(l) != 0 || len(m) != 0 || len(r) != 0 || e != api.ErrBad || f != api.ErrBad || h != api.ErrBad {
					t.Error(limit, from, tick, l, e, m, f, r, h)
				}
			}
		}
	}
}

func TestP71Ticks(t *testing.T) {
	for _, tick := range badTicks {
		if n, e := State(ball, equator, source(0, 0), tick, cut(1, 2)); n != 0 || e != api.ErrArg {
			t.Error(tick, n, e)
		}
	}
	// 1000000 is 640 ticks after a turn, and -1000000 is 80.
	for _, c := range []struct{ tick, ra, want int }{{1000000, 640, 1}, {1000000, 280, -1}, {999999, 639, 1}, {-1000000, 80, 1}, {-1000000, 440, -1}, {-999999, 81, 1}} {
		if n, e := State(ball, equator, source(c.ra, 0), c.tick, cut(99, 100)); n != c.want || e != api.OK {
			t.Error(c, n, e)
		}
	}
}

// fails has the same error in all functions with stations, whatever is wrong with limits and times.
func fails(t *testing.T, g api.Globe, l []api.Site, s api.Source, want api.Errno) {
	t.Helper()
	for _, limit := range []api.Frac{cut(1, 2), {}, cut(2, 1)} {
		for _, from := range []int{0, 1000001, -1000001} {
			for _, to := range []int{from, from + 100, from - 1, from + 721} {
				if w, e := All(g, l, s, from, to, limit); len(w) != 0 || e != want {
					t.Error("All", g, l, s, from, to, limit, w, e, want)
				}
				if len(l) != 1 {
					continue
				}
				if w, e := Windows(g, l[0], s, from, to, limit); len(w) != 0 || e != want {
					t.Error("Windows", g, l, s, from, to, limit, w, e, want)
				}
				if n, e := State(g, l[0], s, from, limit); n != 0 || e != want {
					t.Error("State", g, l, s, from, limit, n, e, want)
				}
			}
		}
	}
}

// TestP7First has the errors of the globe and the stations before those of the source, and these before all other ones.
func TestP7First(t *testing.T) {
	for _, s := range []api.Source{source(1, 2), badSources[0]} {
		for _, g := range badGlobes {
			for _, l := range [][]api.Site{nil, some(1), some(3), some(10), badSites[:1]} {
				fails(t, g, l, s, api.ErrArg)
			}
		}
		for _, x := range badSites {
			fails(t, ball, []api.Site{x}, s, api.ErrBad)
			for k := range 4 {
				// A name and a place that are there twice come after it.
				fails(t, ball, slices.Insert(some(6), 2*k, x, x), s, api.ErrBad)
				fails(t, ball, slices.Insert(some(8), 2*k, x), s, api.ErrMany)
			}
		}
		fails(t, ball, some(9), s, api.ErrMany)
		fails(t, ball, some(10), s, api.ErrMany)
		for _, l := range [][]api.Site{{equator, equator}, {equator, site("y 0 0")}, {equator, site("x 1/2 0")}, {site("p 1 3"), equator, site("q 1 4")}} {
			fails(t, ball, l, s, api.ErrTwice)
		}
	}
	for _, s := range badSources {
		for _, l := range [][]api.Site{nil, some(1), some(2), some(8)} {
			fails(t, ball, l, s, api.ErrBad)
		}
	}
}

func TestP72Examples(t *testing.T) {
	pole := site("n 1 0")
	for _, c := range []struct {
		x        api.Site
		ra, dec  int
		from, to int
		limit    api.Frac
		want     []api.Window
	}{
		{equator, 0, 0, 0, 360, cut(2, 5), windows(0, 133)},
		{equator, 0, 0, 0, 133, cut(2, 5), windows(0, 133)},
		{equator, 0, 0, 0, 132, cut(2, 5), windows(0, 132)},
		{equator, 0, 0, 132, 133, cut(2, 5), windows(132, 133)},
		{equator, 0, 0, 133, 134, cut(2, 5), nil},
		{equator, 0, 0, 5, 5, cut(2, 5), nil},
		{equator, 0, 0, 0, 720, cut(2, 5), windows(0, 133, 588, 720)},
		{equator, 0, 0, 0, 720, cut(1, 2), windows(0, 120, 601, 720)},
		{equator, 0, 0, 0, 720, cut(0, 1), windows(0, 180, 541, 720)},
		{equator, 0, 0, 0, 720, cut(1, 1), nil},
		{equator, 0, 0, -1000, -280, cut(1, 2), windows(-839, -600)},
		{equator, 0, 0, 160, 500, cut(2, 5), nil},
		{equator, 0, 180, 0, 720, cut(0, 1), nil},
		{pole, 77, 180, -999, -279, cut(9, 10), windows(-999, -279)},
		{pole, 77, 60, -999, -279, cut(499, 1000), windows(-999, -279)},
		{pole, 77, 60, -999, -279, cut(1, 2), nil},
		{equator, 640, 0, 999280, 1000000, cut(1, 2), windows(999280, 999400, 999881, 1000000)},
		{equator, 80, 0, -1000000, -999280, cut(1, 2), windows(-1000000, -999880, -999399, -999280)},
	} {
		if l, e := Windows(ball, c.x, source(c.ra, c.dec), c.from, c.to, c.limit); !slices.Equal(l, c.want) || e != api.OK {
			t.Error("Windows", c, l, e)
		}
		if l, e := All(ball, []api.Site{c.x}, source(c.ra, c.dec), c.from, c.to, c.limit); !slices.Equal(l, c.want) || e != api.OK {
			t.Error("All", c, l, e)
		}
	}
}

func TestP72NoStation(t *testing.T) {
	for _, c := range [][2]int{{0, 1}, {0, 720}, {-5, 5}, {-1000000, -999280}, {999280, 1000000}, {999999, 1000000}} {
		for _, l := range [][]api.Site{nil, {}} {
			if w, e := All(ball, l, source(3, 90), c[0], c[1], cut(1, 1)); !slices.Equal(w, windows(c[0], c[1])) || e != api.OK {
				t.Error(c, w, e)
			}
		}
	}
	for _, tick := range []int{-1000000, 0, 77, 1000000} {
		if w, e := All(ball, nil, source(3, 90), tick, tick, cut(1, 2)); len(w) != 0 || e != api.OK {
			t.Error(tick, w, e)
		}
		if w, e := All(ball, some(8), source(3, 90), tick, tick, cut(1, 2)); len(w) != 0 || e != api.OK {
			t.Error(tick, w, e)
		}
	}
}

func TestP72Times(t *testing.T) {
	check := func(from, to int, want api.Errno) {
		t.Helper()
		w, e := Windows(ball, equator, source(0, 0), from, to, cut(1, 2))
		m, f := All(ball, some(3), source(0, 0), from, to, cut(1, 2))
		r, h := All(ball, nil, source(0, 0), from, to, cut(1, 2))
		if e != want || f != want || h != want || want != api.OK && len(w)+len(m)+len(r) > 0 {
			t.Error(from, to, w, e, m, f, r, h)
		}
	}
	for _, from := range []int{-1000000, -721, 0, 1, 500, 999279} {
		check(from, 1000000, api.ErrMany)
		for _, many := range []int{0, 1, 719, 720} {
			check(from, from+many, api.OK)
		}
		for _, many := range []int{721, 722, 1440} {
			if from+many <= 1000000 {
				check(from, from+many, api.ErrMany)
			}
		}
		for _, before := range []int{1, 2, 720, 721, 100000} {
			check(from, from-before, api.ErrArg)
		}
		for _, tick := range badTicks {
			check(from, tick, api.ErrArg)
			check(tick, from, api.ErrArg)
			check(tick, tick, api.ErrArg)
			check(tick, tick+1, api.ErrArg)
		}
	}
	check(999280, 1000000, api.OK)
	check(1000000, 1000000, api.OK)
	check(999990, 1000001, api.ErrArg)
	check(-1000001, -999990, api.ErrArg)
	check(-1000000, 1000000, api.ErrMany)
}

// TestP72Anywhere compares with the states of all ticks, reckoned with big numbers.
func TestP72Anywhere(t *testing.T) {
	d := dice(3)
	counts := map[int]int{}
	for k := range 160 {
		g, s, limit := d.globe(), d.source(), d.limit()
		l := d.array(1+k%8, 20)
		if k%2 == 0 {
			// A low limit and near stations, so that a source is up for many of them.
			limit = cut(0, 1)
			l = d.array(1+k%8, 1)
		}
		from := d.tick()
		many := 720
		if k%4 > 1 {
			many = d.below(720)
		}
		to := min(from+many, 1000000)
		want := wantAll(g, l, s, from, to, limit)
		counts[len(want)]++
		if w, e := All(g, l, s, from, to, limit); !slices.Equal(w, want) || e != api.OK {
			t.Error("All", g, l, s, from, to, limit, w, e, want)
		}
		want = wantAll(g, l[:1], s, from, to, limit)
		if w, e := Windows(g, l[0], s, from, to, limit); !slices.Equal(w, want) || e != api.OK {
			t.Error("Windows", g, l[0], s, from, to, limit, w, e, want)
		}
	}
	if counts[0] < 20 || counts[1] < 20 || counts[2] < 5 {
		t.Error("one-sided", counts)
	}
}
