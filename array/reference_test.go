package array

import (
	"math"
	"math/big"
	"regexp"
	"slices"
	"strings"
	"testing"

	"fringe/api"
)

const most = api.MaxFrac

var badFracs = []api.Frac{
	{Num: 0, Den: 0}, {Num: 1, Den: 0}, {Num: 1, Den: -1}, {Num: 0, Den: -1}, {Num: 0, Den: 2}, {Num: 2, Den: 2}, {Num: -2, Den: 4}, {Num: 6, Den: 9},
	{Num: most + 1, Den: 1}, {Num: 1, Den: most + 1}, {Num: math.MaxInt64, Den: 1}, {Num: math.MinInt64, Den: 1}, {Num: 1, Den: math.MinInt64}, {Num: math.MinInt64, Den: math.MinInt64},
}

// outside are valid fractions that are no parameters.
var outside = []api.Frac{{Num: 1, Den: 21}, {Num: -1, Den: 21}, {Num: 20, Den: 21}, {Num: 21, Den: 1}, {Num: -21, Den: 1}, {Num: 21, Den: 20}, {Num: most, Den: 1}, {Num: -most, Den: 1}, {Num: 1, Den: most}}

var badGlobes = []api.Globe{
	{}, {A: 0, B: 1}, {A: 1, B: 0}, {A: -1, B: 1}, {A: 1, B: -1}, {A: 1001, B: 1000}, {A: 1000, B: 1001},
	{A: math.MaxInt, B: 1}, {A: 1, B: math.MaxInt}, {A: math.MinInt, B: 1}, {A: 1, B: math.MinInt},
}

// goodGlobes are valid, at the ends of the ranges, too.
var goodGlobes = []api.Globe{{A: 5, B: 5}, {A: 1, B: 1}, {A: 6, B: 3}, {A: 25, B: 13}, {A: 1000, B: 1}, {A: 1, B: 1000}, {A: 1000, B: 1000}, {A: 997, B: 991}}

// badNames are no names, for each reason and each place in them.
var badNames = []string{
	"", " ", "-", "-a", "0", "7a", "A", "aA", "Ab", "aZb", "a_b", "a b", " a", "a ", "a.b", "a/b", "a\n", "\na", "a\nb", "a\x00", "\x00", "a\xff", "\xffa", "é", "aé", "\u0430", "a\u0661", "a\uff11", "a\u2010b",
	"`a", "{a", "a`", "a{", "a/", "a:", "a,", "a+", "a\r", "a\t", strings.Repeat("a", 41), strings.Repeat("a-0", 1000), strings.Repeat("a", 39) + "é", strings.Repeat("a", 40) + "\n",
}

var goodNames = []string{"a", "z", "q", "a0", "a9", "z-", "a-", "a--", "aa", "n-7", "two-2", "a0123456789", "abcdefghijklmnopqrstuvwxyz", strings.Repeat("z", 40), "m" + strings.Repeat("-", 39), "m" + strings.Repeat("0", 39)}

// one is a fraction that is a whole number.
func one(n int64) api.Frac { return api.Frac{Num: n, Den: 1} }

func exact(a api.Frac) *big.Rat { return big.NewRat(a.Num, a.Den) }

// read is the fraction with a text.
func read(s string) api.Frac {
	r, ok := new(big.Rat).SetString(s)
	if !ok {
		panic("no number: " + s)
	}
	return fraction(r)
}

// fraction is the fraction of a number whose parts have at most 64 bits.
func fraction(r *big.Rat) api.Frac {
	if !r.Num().IsInt64() || !r.Denom().IsInt64() {
		panic("no fraction: " + r.String())
	}
	return api.Frac{Num: r.Num().Int64(), Den: r.Denom().Int64()}
}

// sitesOf are stations, each one with a name, S and T, with spaces between them.
func sitesOf(l ...string) []api.Site {
	var sites []api.Site
	for _, s := range l {
		p := strings.Fields(s)
		sites = append(sites, api.Site{Name: p[0], S: read(p[1]), T: read(p[2])})
	}
	return sites
}

// vecOf is the vector whose coordinates have a text, with spaces between them.
func vecOf(s string) api.Vec {
	l := strings.Fields(s)
	return api.Vec{X: read(l[0]), Y: read(l[1]), Z: read(l[2])}
}

// wantFrac is the definition of a valid fraction, by way of big numbers.
func wantFrac(a api.Frac) bool {
	if a.Den < 1 || a.Den > most || a.Num < -most || a.Num > most {
		return false
	}
	return exact(a).Denom().Cmp(big.NewInt(a.Den)) == 0
}

// wantParam is the definition of a parameter.
func wantParam(a api.Frac) bool {
	return wantFrac(a) && a.Den <= 20 && a.Num >= -20 && a.Num <= 20
}

var name = regexp.MustCompile(`\A[a-z][a-z0-9-]{0,39}\z`)

// wantStation is the definition of a valid station.
func wantStation(x api.Site) bool {
	return name.MatchString(x.Name) && wantParam(x.S) && wantParam(x.T) && new(big.Rat).Abs(exact(x.S)).Cmp(big.NewRat(1, 1)) <= 0
}

// triple has the coordinates of a vector.
type triple [3]*big.Rat

// fold returns c(u) and k(u).
func fold(u api.Frac) (c, k *big.Rat) {
	n, d := u.Num*u.Num, u.Den*u.Den
	return big.NewRat(d-n, d+n), big.NewRat(2*u.Num*u.Den, d+n)
}

// wantPlace asks that a station is valid.
func wantPlace(g api.Globe, x api.Site) triple {
	cs, ks := fold(x.S)
	ct, kt := fold(x.T)
	a, b := big.NewRat(int64(g.A), 1), big.NewRat(int64(g.B), 1)
	times := func(x, y *big.Rat) *big.Rat { return new(big.Rat).Mul(x, y) }
	return triple{times(a, times(cs, ct)), times(a, times(cs, kt)), times(b, ks)}
}

func (p triple) less(q triple) triple {
	var r triple
	for k := range r {
		r[k] = new(big.Rat).Sub(p[k], q[k])
	}
	return r
}

func (p triple) vec() api.Vec {
	return api.Vec{X: fraction(p[0]), Y: fraction(p[1]), Z: fraction(p[2])}
}

// size is the text of the one of p and its opposite whose first coordinate other than 0 is greater than 0.
func (p triple) size() string {
	for _, x := range p {
		if x.Sign() > 0 {
			break
		}
		if x.Sign() < 0 {
			p = triple{new(big.Rat), new(big.Rat), new(big.Rat)}.less(p)
			break
		}
	}
	return p[0].String() + " " + p[1].String() + " " + p[2].String()
}

func wantLine(g api.Globe, l []api.Site, i, j int) triple {
	return wantPlace(g, l[j]).less(wantPlace(g, l[i]))
}

func wantCheck(g api.Globe, l []api.Site) api.Errno {
	if g.A < 1 || g.A > 1000 || g.B < 1 || g.B > 1000 {
		return api.ErrArg
	}
	if len(l) > 8 {
		return api.ErrMany
	}
	for _, x := range l {
		if !wantStation(x) {
			return api.ErrBad
		}
	}
	names, places := map[string]bool{}, map[api.Vec]bool{}
	for _, x := range l {
		names[x.Name], places[wantPlace(g, x).vec()] = true, true
	}
	if len(names) < len(l) || len(places) < len(l) {
		return api.ErrTwice
	}
	return api.OK
}

// wantClasses puts together the pairs with a map, and then the classes in the order of their first pairs.
func wantClasses(g api.Globe, l []api.Site) []api.Class {
	sets := map[string]*api.Class{}
	for i := range l {
		for j := range i {
			d := wantLine(g, l, j, i)
			if sets[d.size()] == nil {
				sets[d.size()] = &api.Class{}
			}
			c := sets[d.size()]
			c.Pairs = append(c.Pairs, api.Pair{I: j, J: i})
		}
	}
	var classes []api.Class
	for _, c := range sets {
		slices.SortFunc(c.Pairs, before)
		c.V = wantLine(g, l, c.Pairs[0].I, c.Pairs[0].J).vec()
		classes = append(classes, *c)
	}
	slices.SortFunc(classes, func(a, b api.Class) int { return before(a.Pairs[0], b.Pairs[0]) })
	return classes
}

// before has the order of pairs; places are less than 100.
func before(p, q api.Pair) int { return p.I*100 + p.J - q.I*100 - q.J }

func sameClasses(a, b []api.Class) bool {
	return slices.EqualFunc(a, b, func(c, d api.Class) bool { return c.V == d.V && slices.Equal(c.Pairs, d.Pairs) })
}

// wantText asks that all stations are valid.
func wantText(l []api.Site) string {
	s := ""
	for _, x := range l {
		s += x.Name + " " + exact(x.S).RatString() + " " + exact(x.T).RatString() + "\n"
	}
	return s
}

// dice gives the same numbers in each run.
type dice uint64

func (d *dice) below(n int) int {
	*d = *d*6364136223846793005 + 1442695040888963407
	x := uint64(*d)
	return int((x ^ x>>29) % uint64(n))
}

func (d *dice) globe() api.Globe {
	return api.Globe{A: 1 + d.below(1000)>>d.below(10), B: 1 + d.below(1000)>>d.below(10)}
}

// param gives a parameter: any one, or one of a few whose places are symmetric, so that many baselines are equal.
func (d *dice) param(few bool) api.Frac {
	const symmetric = "0 1 -1 1/2 -1/2 2 -2"
	if few {
		l := strings.Fields(symmetric)
		return read(l[d.below(len(l))])
	}
	for {
		if a := (api.Frac{Num: int64(d.below(41) - 20), Den: int64(1 + d.below(20))}); wantParam(a) {
			return a
		}
	}
}

func (d *dice) name() string {
	const letters = "abcdefghijklmnopqrstuvwxyz0123456789-"
	b := []byte{letters[d.below(26)]}
	for range d.below(40) {
		b = append(b, letters[d.below(len(letters))])
	}
	return string(b)
}

func (d *dice) site(few bool) api.Site {
	for {
		if x := (api.Site{Name: d.name(), S: d.param(few), T: d.param(few)}); wantStation(x) {
			return x
		}
	}
}

// array gives a valid array of n stations, which may stay less if there are few places.
func (d *dice) array(g api.Globe, n int, few bool) []api.Site {
	var l []api.Site
	for range 10 * n {
		if next := append(slices.Clone(l), d.site(few)); len(l) < n && wantCheck(g, next) == api.OK {
			l = next
		}
	}
	return l
}

// order gives the numbers from 0 to n - 1 in some order.
func (d *dice) order(n int) []int {
	order := make([]int, n)
	for k := range order {
		i := d.below(k + 1)
		order[k] = order[i]
		order[i] = k
	}
	return order
}

// mustArray returns n valid stations that are far from each other.
func mustArray(t *testing.T, n int) []api.Site {
	t.Helper()
	l := sitesOf("a 0 0", "b 0 1", "c 0 -1", "d 1 0", "e -1 0", "f 1/2 7", "g -1/3 20/19", "h 19/20 -1/20", "i 1/7 1/7", "j 1/8 1/8")
	if n > len(l) {
		t.Fatal("too many:", n)
	}
	return l[:n]
}
