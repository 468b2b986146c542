package track

import (
	"math"
	"math/big"
	"regexp"
	"strings"

	"fringe/api"
)

const (
	most  = api.MaxFrac
	limit = api.MaxSpan
)

// badNames are no names, for each reason and each place in them.
var badNames = []string{
	"", " ", "-", "-a", "0", "7a", "A", "aA", "Ab", "aZb", "a_b", "a b", " a", "a ", "a.b", "a/b", "a\n", "\na", "a\nb", "a\x00", "\x00", "a\xff", "\xffa", "é", "aé", "\u0430", "a\u0661", "a\uff11", "a\u2010b",
	"`a", "{a", "a`", "a{", "a/", "a:", "a,", "a+", "a.", "a@", "a\r", "a\t", strings.Repeat("a", 41), strings.Repeat("a-0", 1000), strings.Repeat("a", 39) + "é", strings.Repeat("a", 40) + "\n",
}

var goodNames = []string{"a", "z", "q", "a0", "a9", "z-", "a-", "a--", "aa", "az", "n-7", "two-2", "a0123456789", "abcdefghijklmnopqrstuvwxyz", strings.Repeat("z", 40), "m" + strings.Repeat("-", 39), "m" + strings.Repeat("9", 39)}

// badSources are no sources, for each reason and at the ends of the ranges.
func badSources() []api.Source {
	var l []api.Source
	for _, name := range badNames {
		l = append(l, api.Source{Name: name, Ra: 5, Dec: 7})
	}
	for _, ra := range []int{-1, 720, 721, -720, 1440, math.MinInt, math.MaxInt, 1 << 32, 1<<32 + 5} {
		l = append(l, api.Source{Name: "a", Ra: ra, Dec: 7})
	}
	for _, dec := range []int{-181, 181, -182, 182, 360, 540, 720, -720, math.MinInt, math.MaxInt, 1 << 32, -1 << 32} {
		l = append(l, api.Source{Name: "a", Ra: 5, Dec: dec})
	}
	return append(l, api.Source{}, api.Source{Name: "A", Ra: 720, Dec: 181})
}

// badSpans are no enclosures, for each reason and at the ends of the ranges.
var badSpans = []api.Span{
	{Lo: 1, Hi: 0}, {Lo: 0, Hi: -1}, {Lo: limit, Hi: -limit}, {Lo: limit, Hi: limit - 1}, {Lo: 0, Hi: limit + 1}, {Lo: limit + 1, Hi: limit + 1}, {Lo: -limit - 1, Hi: 0}, {Lo: -limit - 1, Hi: -limit - 1},
	{Lo: math.MinInt64, Hi: math.MaxInt64}, {Lo: math.MaxInt64, Hi: math.MinInt64}, {Lo: math.MinInt64, Hi: 0}, {Lo: 0, Hi: math.MaxInt64},
}

var badFracs = []api.Frac{
	{Num: 0, Den: 0}, {Num: 1, Den: 0}, {Num: 1, Den: -1}, {Num: 0, Den: 2}, {Num: 2, Den: 2}, {Num: -2, Den: 4}, {Num: 6, Den: 9},
	{Num: most + 1, Den: 1}, {Num: 1, Den: most + 1}, {Num: math.MaxInt64, Den: 1}, {Num: math.MinInt64, Den: 1}, {Num: 1, Den: math.MinInt64}, {Num: math.MinInt64, Den: math.MinInt64},
}

func source(ra, dec int) api.Source { return api.Source{Name: "a", Ra: ra, Dec: dec} }

var name = regexp.MustCompile(`\A[a-z][a-z0-9-]{0,39}\z`)

// wantSource is the definition of a valid source.
func wantSource(s api.Source) bool {
	return name.MatchString(s.Name) && 0 <= s.Ra && s.Ra <= 719 && -180 <= s.Dec && s.Dec <= 180
}

func wantSpan(a api.Span) bool { return a.Lo <= a.Hi && -3000000000 <= a.Lo && a.Hi <= 3000000000 }

// wantFrac is the definition of a valid fraction, by way of big numbers.
func wantFrac(a api.Frac) bool {
	if a.Den < 1 || a.Den > most || a.Num < -most || a.Num > most {
		return false
	}
	return exact(a).Denom().Cmp(big.NewInt(a.Den)) == 0
}

func wantVec(v api.Vec) bool { return wantFrac(v.X) && wantFrac(v.Y) && wantFrac(v.Z) }

func wantDir(d api.Dir) bool { return wantSpan(d.X) && wantSpan(d.Y) && wantSpan(d.Z) }

func exact(a api.Frac) *big.Rat { return big.NewRat(a.Num, a.Den) }

// read is the fraction with a text.
func read(s string) api.Frac {
	r, ok := new(big.Rat).SetString(s)
	if !ok {
		panic("no number: " + s)
	}
	return fraction(r)
}

// fraction is the fraction of a number whose parts have at most 64 bits.
func fraction(r *big.Rat) api.Frac {
	if !r.Num().IsInt64() || !r.Denom().IsInt64() {
		panic("no fraction: " + r.String())
	}
	return api.Frac{Num: r.Num().Int64(), Den: r.Denom().Int64()}
}

// vecOf is the vector whose coordinates have a text, with spaces between them.
func vecOf(s string) api.Vec {
	l := strings.Fields(s)
	return api.Vec{X: read(l[0]), Y: read(l[1]), Z: read(l[2])}
}

// ends is an enclosure of any size, in millionths.
type ends struct{ lo, hi *big.Int }

func endsOf(a api.Span) ends { return ends{big.NewInt(a.Lo), big.NewInt(a.Hi)} }

// span is the enclosure, if it is in the range.
func (a ends) span() (api.Span, bool) {
	if !a.lo.IsInt64() || !a.hi.IsInt64() {
		return api.Span{}, false
	}
	s := api.Span{Lo: a.lo.Int64(), Hi: a.hi.Int64()}
	return s, wantSpan(s)
}

func (a ends) plus(b ends) ends {
	return ends{new(big.Int).Add(a.lo, b.lo), new(big.Int).Add(a.hi, b.hi)}
}

func (a ends) times(b ends) ends {
	var least, greatest *big.Int
	for _, x := range []*big.Int{a.lo, a.hi} {
		for _, y := range []*big.Int{b.lo, b.hi} {
			p := new(big.Int).Mul(x, y)
			if least == nil || p.Cmp(least) < 0 {
				least = p
			}
			if greatest == nil || p.Cmp(greatest) > 0 {
				greatest = p
			}
		}
	}
	return ends{floorOf(least, unit), ceilOf(greatest, unit)}
}

var unit = big.NewInt(1000000)

// floorOf is Euclid's division: y is greater than 0.
func floorOf(x, y *big.Int) *big.Int { return new(big.Int).Div(x, y) }

func ceilOf(x, y *big.Int) *big.Int {
	z := floorOf(new(big.Int).Neg(x), y)
	return z.Neg(z)
}

// around is the enclosure of a fraction.
func around(a api.Frac) ends {
	x := new(big.Int).Mul(big.NewInt(a.Num), unit)
	return ends{floorOf(x, big.NewInt(a.Den)), ceilOf(x, big.NewInt(a.Den))}
}

// wantDot is the dot product of two lists, or ErrRange if anything in it is out of the range.
func wantDot(a, b [3]ends) (api.Span, api.Errno) {
	ok := true
	see := func(x ends) ends {
		_, is := x.span()
		ok = ok && is
		return x
	}
	total := see(see(a[0]).times(see(b[0])))
	for k := 1; k < 3; k++ {
		total = see(total.plus(see(see(a[k]).times(see(b[k])))))
	}
	if !ok {
		return api.Span{}, api.ErrRange
	}
	s, _ := total.span()
	return s, api.OK
}

func listOf(d api.Dir) [3]ends { return [3]ends{endsOf(d.X), endsOf(d.Y), endsOf(d.Z)} }

func wantDots(a, b api.Dir) (api.Span, api.Errno) {
	if !wantDir(a) || !wantDir(b) {
		return api.Span{}, api.ErrBad
	}
	return wantDot(listOf(a), listOf(b))
}

func wantAlong(d api.Dir, v api.Vec) (api.Span, api.Errno) {
	if !wantDir(d) || !wantVec(v) {
		return api.Span{}, api.ErrBad
	}
	return wantDot(listOf(d), [3]ends{around(v.X), around(v.Y), around(v.Z)})
}

func angle(halves int) float64 { return float64(halves) * math.Pi / 360 }

// enclosed is the enclosure of a cosine or a sine of half degrees: what is within 10^-6 of a whole number of millionths is that number, as layer 5 has found no other one so near.
func enclosed(x float64) ends {
	m := x * 1000000
	if near := math.Round(m); math.Abs(m-near) < 1e-6 {
		return ends{big.NewInt(int64(near)), big.NewInt(int64(near))}
	}
	return ends{big.NewInt(int64(math.Floor(m))), big.NewInt(int64(math.Ceil(m)))}
}

func cosOf(halves int) ends { return enclosed(math.Cos(angle(halves))) }

func sinOf(halves int) ends { return enclosed(math.Sin(angle(halves))) }

// wantAt asks that a source is valid.
func wantAt(s api.Source, tick int) api.Dir {
	longitude := s.Ra - tick
	longitude = (longitude%720 + 720) % 720
	x, _ := cosOf(s.Dec).times(cosOf(longitude)).span()
	y, _ := cosOf(s.Dec).times(sinOf(longitude)).span()
	z, _ := sinOf(s.Dec).span()
	return api.Dir{X: x, Y: y, Z: z}
}

// wantApart asks that both sources are valid.
func wantApart(a, b api.Source) api.Span {
	across := cosOf(a.Dec).times(cosOf(b.Dec)).times(cosOf(a.Ra - b.Ra))
	s, _ := sinOf(a.Dec).times(sinOf(b.Dec)).plus(across).span()
	return s
}

// has tells whether an enclosure has a number but for the errors of floats.
func has(a api.Span, x float64) bool {
	return float64(a.Lo)-1e-6 <= x*1000000 && x*1000000 <= float64(a.Hi)+1e-6
}

func meet(a, b api.Span) bool { return max(a.Lo, b.Lo) <= min(a.Hi, b.Hi) }

func opposite(a api.Span) api.Span { return api.Span{Lo: -a.Hi, Hi: -a.Lo} }

// dice gives the same numbers in each run.
type dice uint64

func (d *dice) next() uint64 {
	*d = *d*6364136223846793005 + 1442695040888963407
	x := uint64(*d)
	return x ^ x>>29
}

func (d *dice) below(n int) int { return int(d.next() % uint64(n)) }

func (d *dice) source() api.Source { return source(d.below(720), d.below(361)-180) }

func (d *dice) tick() int { return d.below(2000001) - 1000000 }

// span gives an enclosure with numbers of up to some bits.
func (d *dice) span(bits int) api.Span {
	end := func() int64 { return int64(d.next()%uint64(limit+1)) >> (32 - bits + d.below(2)) }
	a, b := end(), end()
	if d.below(2) == 0 {
		a = -a
	}
	if d.below(2) == 0 {
		b = -b
	}
	if d.below(3) == 0 {
		b = min(a+int64(d.below(3)), limit)
	}
	return api.Span{Lo: min(a, b), Hi: max(a, b)}
}

func (d *dice) dir(bits int) api.Dir {
	return api.Dir{X: d.span(bits), Y: d.span(bits), Z: d.span(bits)}
}

// frac gives a valid fraction that is less than a bound, with a denominator of up to some bits.
func (d *dice) frac(bound, bits int) api.Frac {
	den := 1 + int64(d.next()%(1<<bits))>>d.below(bits)
	whole, part := int64(d.below(bound)), int64(d.next()%uint64(den))
	if d.below(2) == 0 {
		whole, part = -whole, -part
	}
	return fraction(new(big.Rat).Add(big.NewRat(whole, 1), big.NewRat(part, den)))
}

func (d *dice) vec(bound, bits int) api.Vec {
	return api.Vec{X: d.frac(bound, bits), Y: d.frac(bound, bits), Z: d.frac(bound, bits)}
}
