package rise

import (
	"math"
	"slices"
	"testing"

	"fringe/api"
)

func mustState(t *testing.T, g api.Globe, x api.Site, s api.Source, tick int, limit api.Frac) int {
	t.Helper()
	n, e := State(g, x, s, tick, limit)
	if e != api.OK {
		t.Fatal(g, x, s, tick, limit, e)
	}
	return n
}

func mustAll(t *testing.T, g api.Globe, l []api.Site, s api.Source, from, to int, limit api.Frac) []api.Window {
	t.Helper()
	w, e := All(g, l, s, from, to, limit)
	if e != api.OK {
		t.Fatal(g, l, s, from, to, limit, e)
	}
	return w
}

// TestP75Ticks asks for the state at each tick, and looks for it in the windows.
func TestP75Ticks(t *testing.T) {
	d := dice(8)
	edges := 0
	for range 300 {
		g, x, s, limit := d.globe(), d.site("x", 20), d.source(), d.limit()
		from := d.below(1000) - 500
		to := from + d.below(721)
		l, e := Windows(g, x, s, from, to, limit)
		if e != api.OK || !wantValid(l) {
			t.Error(g, x, s, from, to, limit, l, e)
		}
		for tick := from; tick < to; tick++ {
			if inside(l, tick) != (mustState(t, g, x, s, tick, limit) == 1) {
				t.Error(g, x, s, from, to, limit, l, tick)
			}
		}
		for _, w := range l {
			if w.From < from || w.To > to {
				t.Error("outside", from, to, l)
			}
			if w.From > from && w.To < to {
				edges++
			}
		}
	}
	if edges < 10 {
		t.Error("one-sided", edges)
	}
}

// TestP75Met has the windows for several stations as those of each one, met.
func TestP75Met(t *testing.T) {
	d := dice(9)
	some := 0
	for k := range 200 {
		g, s, limit := d.globe(), d.source(), cut(int64(1+d.below(40)), 101)
		l := d.array(k%9, 1)
		from := d.tick()
		to := min(from+720, 1000000)
		met := windows(from, to)
		if from == to {
			met = nil
		}
		for _, x := range l {
			w, e := Windows(g, x, s, from, to, limit)
			next, f := Meet(met, w)
			if e != api.OK || f != api.OK {
				t.Error(g, x, s, from, to, limit, e, f)
			}
			met = next
		}
		w := mustAll(t, g, l, s, from, to, limit)
		if !slices.Equal(w, met) {
			t.Error(g, l, s, from, to, limit, w, met)
		}
		if len(w) > 0 && len(l) > 1 {
			some++
		}
		// The order of the stations is not seen, nor are their names and that of the source.
		m := slices.Clone(l)
		slices.Reverse(m)
		for i := range m {
			m[i].Name += "-0"
		}
		s.Name = "other"
		if r := mustAll(t, g, m, s, from, to, limit); !slices.Equal(r, w) {
			t.Error(g, m, s, from, to, limit, w, r)
		}
	}
	if some < 20 {
		t.Error("one-sided", some)
	}
}

// TestP75Limits has a source up with each limit that is lower than one with which it is up.
func TestP75Limits(t *testing.T) {
	d := dice(10)
	many := 0
	for k := range 6000 {
		g, x, s, tick := d.globe(), d.site("x", 20), d.source(), d.tick()
		low, high := d.limit(), d.limit()
		if k%2 == 0 {
			low = nearest(sineOf(g, x, s, tick) - 0.00001)
			high = nearest(sineOf(g, x, s, tick) - 0.000003)
		}
		if exact(low).Cmp(exact(high)) > 0 {
			low, high = high, low
		}
		if mustState(t, g, x, s, tick, high) != 1 {
			continue
		}
		many++
		for _, limit := range []api.Frac{low, cut(0, 1)} {
			if n := mustState(t, g, x, s, tick, limit); n != 1 {
				t.Error(g, x, s, tick, low, high, n)
			}
		}
	}
	if many < 500 {
		t.Error("one-sided", many)
	}
}

// TestP75Turning has the opposite of a source, and a source after a turn.
func TestP75Turning(t *testing.T) {
	d := dice(11)
	many := map[int]int{}
	for range 12000 {
		g, x, s, limit := d.globe(), d.site("x", 20), d.source(), d.limit()
		tick := d.below(1999281) - 1000000
		n := mustState(t, g, x, s, tick, limit)
		many[n]++
		if after := mustState(t, g, x, s, tick+720, limit); after != n {
			t.Error("another state", g, x, s, tick, limit, n, after)
		}
		opposite := source((s.Ra+360)%720, -s.Dec)
		if o := mustState(t, g, x, opposite, tick, limit); n == 1 && o != -1 {
			t.Error("not opposite", g, x, s, tick, limit, o)
		}
	}
	if many[1] < 1000 || many[-1] < 1000 {
		t.Error("one-sided", many)
	}
}

// TestR2ReadOnly looks at arguments and at the memory behind them, in calls with an error, too.
func TestR2ReadOnly(t *testing.T) {
	for n := range 10 {
		for _, g := range []api.Globe{{A: 5, B: 5}, {}} {
			for _, limit := range []api.Frac{cut(0, 1), {}} {
				all, old := some(10), some(10)
				All(g, all[:n], source(1, 2), 0, 500, limit)
				All(g, all[:n], source(1, 2), 0, 721, limit)
				if !slices.Equal(all, old) {
					t.Error(n, g, limit, "changed", all)
				}
			}
		}
	}
	for _, l := range append(append(badWindows(), manyWindows()...), nil, row(7), comb(0, 600), comb(2, 600)) {
		for _, m := range [][]api.Window{row(9), comb(2, 700), windows(5, 5), nil} {
			a, b := append(slices.Clone(l), row(5)...), append(slices.Clone(m), row(5)...)
			oldA, oldB := slices.Clone(a), slices.Clone(b)
			Check(a[:len(l)])
			Meet(a[:len(l)], b[:len(m)])
			Meet(b[:len(m)], a[:len(l)])
			Meet(a[:len(l)], a[:len(l)])
			Next(a[:len(l)], 3, 2)
			if !slices.Equal(a, oldA) || !slices.Equal(b, oldB) {
				t.Error("changed", oldA, oldB)
			}
		}
	}
}

// TestR2New overwrites results up to their capacity: neither the arguments change, nor other results.
func TestR2New(t *testing.T) {
	fill := func(l []api.Window) {
		l = l[:cap(l)]
		for k := range l {
			l[k] = api.Window{From: 7, To: -7}
		}
	}
	want := windows(0, 133, 588, 720)
	kept := mustAll(t, ball, some(1), source(0, 0), 0, 720, cut(2, 5))
	for range 3 {
		l := mustAll(t, ball, some(1), source(0, 0), 0, 720, cut(2, 5))
		m, e := Windows(ball, equator, source(0, 0), 0, 720, cut(2, 5))
		if !slices.Equal(l, want) || !slices.Equal(m, want) || e != api.OK {
			t.Error(l, m, e)
		}
		fill(l)
		fill(m)
		fill(mustAll(t, ball, nil, source(0, 0), 0, 720, cut(2, 5)))
	}
	if !slices.Equal(kept, want) {
		t.Error("shared", kept)
	}
	for _, p := range [][2][]api.Window{{row(9), row(9)}, {row(9), windows(-5, 50)}, {windows(-5, 50), row(9)}, {row(1), row(1)}, {row(9), nil}} {
		a, b := slices.Clone(p[0]), slices.Clone(p[1])
		first, _ := Meet(a, b)
		second, _ := Meet(a, b)
		old := slices.Clone(second)
		fill(first)
		same, _ := Meet(a, a)
		fill(same)
		if !slices.Equal(a, p[0]) || !slices.Equal(b, p[1]) || !slices.Equal(second, old) {
			t.Error("shared", p, a, b, second)
		}
	}
}

// TestR3Empty has nil and empty lists with the same results.
func TestR3Empty(t *testing.T) {
	for _, l := range [][]api.Window{nil, {}, row(3)[:0]} {
		if e := Check(l); e != api.OK {
			t.Error(e)
		}
		for _, m := range [][]api.Window{nil, {}, row(3)} {
			a, e := Meet(l, m)
			b, f := Meet(m, l)
			if len(a) != 0 || len(b) != 0 || e != api.OK || f != api.OK {
				t.Error(m, a, b, e, f)
			}
		}
		if n, e := Next(l, 5, 1); n != 0 || e != api.ErrNone {
			t.Error(n, e)
		}
	}
	for _, l := range [][]api.Site{nil, {}, some(3)[:0]} {
		if w := mustAll(t, ball, l, source(1, 2), 3, 9, cut(1, 2)); !slices.Equal(w, windows(3, 9)) {
			t.Error(w)
		}
	}
}

// wantError is what is wrong with an array, a source and a limit, in the order of the chapter.
func wantError(isGlobe, isSite, isSource, isLimit bool) api.Errno {
	switch {
	case !isGlobe:
		return api.ErrArg
	case !isSite || !isSource || !isLimit:
		return api.ErrBad
	}
	return api.OK
}

// TestR7NeverPanics calls everything with values of any size, valid or not.
func TestR7NeverPanics(t *testing.T) {
	ticks := append([]int{-1000000, -999999, -721, -1, 0, 1, 719, 720, 721, 999999, 1000000}, badTicks...)
	d := dice(12)
	many := map[api.Errno]int{}
	for range 20000 {
		g, x, s, limit := d.globe(), d.site("x", 20), d.source(), d.limit()
		wrong := [4]bool{d.below(9) == 0, d.below(9) == 0, d.below(9) == 0, d.below(9) == 0}
		if wrong[0] {
			g = badGlobes[d.below(len(badGlobes))]
		}
		if wrong[1] {
			x = badSites[d.below(len(badSites))]
		}
		if wrong[2] {
			s = badSources[d.below(len(badSources))]
		}
		if wrong[3] {
			limit = badLimits[d.below(len(badLimits))]
		}
		from, to := ticks[d.below(len(ticks))], ticks[d.below(len(ticks))]
		code := wantError(!wrong[0], !wrong[1], !wrong[2], !wrong[3])
		want := code
		if want == api.OK && slices.Contains(badTicks, from) {
			want = api.ErrArg
		}
		if n, e := State(g, x, s, from, limit); e != want || e != api.OK && n != 0 || n < -1 || n > 1 {
			t.Error("State", g, x, s, from, limit, n, e, want)
		}
		want = code
		if want == api.OK && (slices.Contains(badTicks, from) || slices.Contains(badTicks, to) || from > to) {
			want = api.ErrArg
		}
		if want == api.OK && to-from > 720 {
			want = api.ErrMany
		}
		many[want]++
		l, e := Windows(g, x, s, from, to, limit)
		if e != want || e != api.OK && len(l) > 0 || !wantValid(l) {
			t.Error("Windows", g, x, s, from, to, limit, l, e, want)
		}
		if m, f := All(g, []api.Site{x}, s, from, to, limit); !slices.Equal(l, m) || f != e {
			t.Error("All", g, x, s, from, to, limit, l, m, e, f)
		}
	}
	for _, e := range []api.Errno{api.OK, api.ErrArg, api.ErrMany, api.ErrBad} {
		if many[e] < 500 {
			t.Error("one-sided", e, many)
		}
	}
	if n, e := State(ball, equator, source(0, 0), math.MinInt, cut(1, 2)); n != 0 || e != api.ErrArg {
		t.Error(n, e)
	}
}
