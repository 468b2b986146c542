package rise

import (
	"math"
	"math/big"
	"slices"
	"strings"

	"fringe/api"
)

const most = api.MaxFrac

var badGlobes = []api.Globe{
	{}, {A: 0, B: 1}, {A: 1, B: 0}, {A: -1, B: 1}, {A: 1, B: -1}, {A: 1001, B: 1000}, {A: 1000, B: 1001},
	{A: math.MaxInt, B: 1}, {A: 1, B: math.MaxInt}, {A: math.MinInt, B: 1}, {A: 1, B: math.MinInt},
}

// goodGlobes are valid, at the ends of the ranges, too.
var goodGlobes = []api.Globe{{A: 5, B: 5}, {A: 1, B: 1}, {A: 6, B: 3}, {A: 13, B: 25}, {A: 1000, B: 1}, {A: 1, B: 1000}, {A: 1000, B: 1000}, {A: 997, B: 991}, {A: 991, B: 997}}

// badLimits are no limits, for each reason and at the ends of the ranges.
var badLimits = []api.Frac{
	{}, {Num: 1, Den: 0}, {Num: 0, Den: -1}, {Num: 1, Den: -1}, {Num: -1, Den: -1}, {Num: -1, Den: -2}, {Num: 0, Den: 2}, {Num: 2, Den: 2}, {Num: 2, Den: 4}, {Num: 500, Den: 1000}, {Num: 1000, Den: 1000},
	{Num: -1, Den: 1}, {Num: -1, Den: 2}, {Num: -1, Den: 1000}, {Num: 2, Den: 1}, {Num: 3, Den: 2}, {Num: 1000, Den: 999}, {Num: 1001, Den: 1000},
	{Num: 1, Den: 1001}, {Num: 500, Den: 1001}, {Num: 1000, Den: 1001}, {Num: 1, Den: 1002}, {Num: 1, Den: most}, {Num: most - 1, Den: most}, {Num: most, Den: 1}, {Num: most + 1, Den: 1}, {Num: 1, Den: most + 1},
	{Num: math.MaxInt64, Den: 1}, {Num: math.MinInt64, Den: 1}, {Num: 1, Den: math.MaxInt64}, {Num: 1, Den: math.MinInt64}, {Num: math.MinInt64, Den: math.MinInt64}, {Num: math.MaxInt64, Den: math.MaxInt64},
}

// badTicks are no ticks.
var badTicks = []int{-1000001, 1000001, -1000720, 1000720, -1 << 32, 1 << 32, math.MinInt, math.MinInt + 1, math.MaxInt - 1, math.MaxInt}

// badSources are no sources, for each reason.
var badSources = []api.Source{
	{}, {Name: "A"}, {Name: "7"}, {Name: "a b"}, {Name: strings.Repeat("a", 41)},
	{Name: "a", Ra: -1}, {Name: "a", Ra: 720}, {Name: "a", Ra: math.MaxInt}, {Name: "a", Dec: -181}, {Name: "a", Dec: 181}, {Name: "a", Dec: math.MinInt},
}

// badSites are no stations, for each reason.
var badSites = []api.Site{
	{}, {Name: "a"}, {Name: "", S: cut(0, 1), T: cut(0, 1)}, {Name: "-", S: cut(0, 1), T: cut(0, 1)}, {Name: "B", S: cut(0, 1), T: cut(0, 1)}, {Name: strings.Repeat("b", 41), S: cut(0, 1), T: cut(0, 1)},
	{Name: "a", S: cut(0, 1)}, {Name: "a", T: cut(0, 1)}, {Name: "a", S: cut(2, 1), T: cut(0, 1)}, {Name: "a", S: cut(-21, 20), T: cut(0, 1)}, {Name: "a", S: cut(0, 1), T: cut(21, 1)}, {Name: "a", S: cut(0, 1), T: cut(1, 21)}, {Name: "a", S: cut(2, 4), T: cut(0, 1)},
}

func cut(num, den int64) api.Frac { return api.Frac{Num: num, Den: den} }

func span(lo, hi int64) api.Span { return api.Span{Lo: lo, Hi: hi} }

func source(ra, dec int) api.Source { return api.Source{Name: "s", Ra: ra, Dec: dec} }

func exact(a api.Frac) *big.Rat { return big.NewRat(a.Num, a.Den) }

func times(x, y *big.Rat) *big.Rat { return new(big.Rat).Mul(x, y) }

// read is the fraction with a text.
func read(s string) api.Frac {
	r, ok := new(big.Rat).SetString(s)
	if !ok {
		panic("no number: " + s)
	}
	return api.Frac{Num: r.Num().Int64(), Den: r.Denom().Int64()}
}

// site is a station with a name, S and T, with spaces between them.
func site(s string) api.Site {
	l := strings.Fields(s)
	return api.Site{Name: l[0], S: read(l[1]), T: read(l[2])}
}

// some returns n valid stations that are far from each other, but for the last one, which is where the first one is.
func some(n int) []api.Site {
	var l []api.Site
	for _, s := range []string{"a 0 0", "b 0 1", "c 0 -1", "d 1 0", "e -1 0", "f 1/2 7", "g -1/3 20/19", "h 19/20 -1/20", "i 1/7 1/7", "j 0 0"}[:n] {
		l = append(l, site(s))
	}
	return l
}

// windows are windows with the numbers From and To, one after the other.
func windows(numbers ...int) []api.Window {
	var l []api.Window
	for pair := range slices.Chunk(numbers, 2) {
		l = append(l, api.Window{From: pair[0], To: pair[1]})
	}
	return l
}

// ends is an enclosure of any size, in millionths.
type ends struct{ lo, hi *big.Int }

var unit = big.NewInt(1000000)

// floorOf is Euclid's division: y is greater than 0.
func floorOf(x, y *big.Int) *big.Int { return new(big.Int).Div(x, y) }

func ceilOf(x, y *big.Int) *big.Int {
	z := floorOf(new(big.Int).Neg(x), y)
	return z.Neg(z)
}

func (a ends) plus(b ends) ends {
	return ends{new(big.Int).Add(a.lo, b.lo), new(big.Int).Add(a.hi, b.hi)}
}

func (a ends) times(b ends) ends {
	var l []*big.Int
	for _, x := range []*big.Int{a.lo, a.hi} {
		for _, y := range []*big.Int{b.lo, b.hi} {
			l = append(l, new(big.Int).Mul(x, y))
		}
	}
	return ends{floorOf(slices.MinFunc(l, (*big.Int).Cmp), unit), ceilOf(slices.MaxFunc(l, (*big.Int).Cmp), unit)}
}

// around is the enclosure of a number.
func around(r *big.Rat) ends {
	x := new(big.Int).Mul(r.Num(), unit)
	return ends{floorOf(x, r.Denom()), ceilOf(x, r.Denom())}
}

func angle(halves int) float64 { return float64(halves) * math.Pi / 360 }

// enclosed is the enclosure of a cosine or a sine of half degrees: what is within 10^-6 of a whole number of millionths is that number, as layer 5 has found no other one so near.
func enclosed(x float64) ends {
	m := x * 1000000
	if near := math.Round(m); math.Abs(m-near) < 1e-6 {
		return ends{big.NewInt(int64(near)), big.NewInt(int64(near))}
	}
	return ends{big.NewInt(int64(math.Floor(m))), big.NewInt(int64(math.Ceil(m)))}
}

func cosOf(halves int) ends { return enclosed(math.Cos(angle(halves))) }

func sinOf(halves int) ends { return enclosed(math.Sin(angle(halves))) }

// wantDir is the direction of a valid source at a tick.
func wantDir(s api.Source, tick int) [3]ends {
	longitude := ((s.Ra-tick)%720 + 720) % 720
	c := cosOf(s.Dec)
	return [3]ends{c.times(cosOf(longitude)), c.times(sinOf(longitude)), sinOf(s.Dec)}
}

// fold returns c(u) and k(u).
func fold(u api.Frac) (c, k *big.Rat) {
	n, d := u.Num*u.Num, u.Den*u.Den
	return big.NewRat(d-n, d+n), big.NewRat(2*u.Num*u.Den, d+n)
}

// wantUpright is the upright of a valid station, made of its place.
func wantUpright(g api.Globe, x api.Site) [3]*big.Rat {
	a, b := int64(g.A), int64(g.B)
	m := max(a, b)
	cs, ks := fold(x.S)
	ct, kt := fold(x.T)
	place := [3]*big.Rat{times(big.NewRat(a, 1), times(cs, ct)), times(big.NewRat(a, 1), times(cs, kt)), times(big.NewRat(b, 1), ks)}
	return [3]*big.Rat{times(place[0], big.NewRat(b, a*m)), times(place[1], big.NewRat(b, a*m)), times(place[2], big.NewRat(a, b*m))}
}

// wantState is the state of a valid source for a valid station, with a limit.
func wantState(g api.Globe, x api.Site, s api.Source, tick int, limit api.Frac) int {
	u, d := wantUpright(g, x), wantDir(s, tick)
	l, length := ends{new(big.Int), new(big.Int)}, new(big.Rat)
	for k := range u {
		l = l.plus(d[k].times(around(u[k])))
		length.Add(length, times(u[k], u[k]))
	}
	square, least := l.times(l), around(times(exact(limit), exact(limit))).times(around(length))
	if l.lo.Sign() > 0 && square.lo.Cmp(least.hi) > 0 {
		return 1
	}
	if l.hi.Sign() < 0 || square.hi.Cmp(least.lo) < 0 {
		return -1
	}
	return 0
}

// sineOf is the sine of the height of a source.
func sineOf(g api.Globe, x api.Site, s api.Source, tick int) float64 {
	u := wantUpright(g, x)
	c, l := math.Cos(angle(s.Dec)), angle(s.Ra-tick)
	d := [3]float64{c * math.Cos(l), c * math.Sin(l), math.Sin(angle(s.Dec))}
	dot, length := 0.0, 0.0
	for k := range u {
		f, _ := u[k].Float64()
		dot += f * d[k]
		length += f * f
	}
	return dot / math.Sqrt(length)
}

// nearest is the limit that is nearest to a number.
func nearest(x float64) api.Frac {
	best, gap := cut(0, 1), math.Inf(1)
	for den := int64(1); den <= 1000; den++ {
		num := int64(math.Round(x * float64(den)))
		if d := math.Abs(x - float64(num)/float64(den)); num >= 0 && num <= den && d < gap {
			best, gap = cut(num, den), d
		}
	}
	return best
}

// wantAll is the windows of a source for all stations, whose first ticks and ends are found one after the other.
func wantAll(g api.Globe, l []api.Site, s api.Source, from, to int, limit api.Frac) []api.Window {
	isUp := func(tick int) bool {
		for _, x := range l {
			if wantState(g, x, s, tick, limit) != 1 {
				return false
			}
		}
		return from <= tick && tick < to
	}
	var windows []api.Window
	before, begin := false, 0
	for tick := from; tick <= to; tick++ {
		now := isUp(tick)
		if now && !before {
			begin = tick
		}
		if before && !now {
			windows = append(windows, api.Window{From: begin, To: tick})
		}
		before = now
	}
	return windows
}

// wantValid is the definition of valid windows.
func wantValid(l []api.Window) bool {
	for k := range l {
		if l[k].From >= l[k].To || k+1 < len(l) && l[k].To >= l[k+1].From {
			return false
		}
	}
	return len(l) <= 1000
}

// wantCheck has ErrMany before ErrBad.
func wantCheck(l []api.Window) api.Errno {
	if len(l) > 1000 {
		return api.ErrMany
	}
	if !wantValid(l) {
		return api.ErrBad
	}
	return api.OK
}

// inside tells whether windows have a tick.
func inside(l []api.Window, tick int) bool {
	return slices.ContainsFunc(l, func(w api.Window) bool { return w.From <= tick && tick < w.To })
}

// wantNext looks at each window with big numbers, the last one first.
func wantNext(l []api.Window, at, length int) (int, api.Errno) {
	if e := wantCheck(l); e != api.OK {
		return 0, e
	}
	if length < 1 {
		return 0, api.ErrArg
	}
	found, e := 0, api.ErrNone
	for _, w := range slices.Backward(l) {
		start := max(w.From, at)
		end := new(big.Int).Add(big.NewInt(int64(start)), big.NewInt(int64(length)))
		if end.Cmp(big.NewInt(int64(w.To))) <= 0 {
			found, e = start, api.OK
		}
	}
	return found, e
}

// dice gives the same numbers in each run.
type dice uint64

func (d *dice) below(n int) int {
	*d = *d*6364136223846793005 + 1442695040888963407
	x := uint64(*d)
	return int((x ^ x>>29) % uint64(n))
}

func (d *dice) globe() api.Globe {
	return api.Globe{A: 1 + d.below(1000)>>d.below(10), B: 1 + d.below(1000)>>d.below(10)}
}

func (d *dice) source() api.Source { return source(d.below(720), d.below(361)-180) }

func (d *dice) tick() int { return d.below(2000001) - 1000000 }

// param gives a parameter whose numerator is at most some number, in absolute value.
func (d *dice) param(size int) api.Frac {
	for {
		num, den := int64(d.below(2*size+1)-size), int64(1+d.below(20))
		if big.NewRat(num, den).Denom().Int64() == den {
			return cut(num, den)
		}
	}
}

// site gives a station: with a T whose numerator is at most 1, most of them are not far from each other.
func (d *dice) site(name string, size int) api.Site {
	for {
		if s := d.param(20); max(s.Num, -s.Num) <= s.Den {
			return api.Site{Name: name, S: s, T: d.param(size)}
		}
	}
}

// array gives a valid array of n stations.
func (d *dice) array(n, size int) []api.Site {
	var l []api.Site
	for len(l) < n {
		x := d.site(string(rune('a'+len(l))), size)
		isThere := func(y api.Site) bool {
			isPole := x.S.Den == 1 && x.S.Num != 0
			return x.S == y.S && (x.T == y.T || isPole)
		}
		if !slices.ContainsFunc(l, isThere) {
			l = append(l, x)
		}
	}
	return l
}

// limit gives any limit.
func (d *dice) limit() api.Frac {
	for {
		den := int64(1 + d.below(1000)>>d.below(10))
		num := int64(d.below(int(den) + 1))
		if big.NewRat(num, den).Denom().Int64() == den {
			return cut(num, den)
		}
	}
}

// windows gives n valid windows after a tick; no window and no gap has more than wide ticks.
func (d *dice) windows(from, n, wide int) []api.Window {
	var l []api.Window
	for range n {
		from += 1 + d.below(wide)
		to := from + 1 + d.below(wide)
		l = append(l, api.Window{From: from, To: to})
		from = to
	}
	return l
}
