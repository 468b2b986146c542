package track

import (
	"testing"

	"fringe/api"
)

// at is the direction whose coordinates have just a number of millionths each.
func at(x, y, z int64) api.Dir { return api.Dir{X: span(x, x), Y: span(y, y), Z: span(z, z)} }

func TestP63Along(t *testing.T) {
	const one = 1000000
	north, skew := at(0, 0, one), at(600000, -800000, 0)
	for _, c := range []struct {
		d    api.Dir
		v    string
		want api.Span
		e    api.Errno
	}{
		{north, "7 8 9", span(9*one, 9*one), api.OK},
		{north, "7 8 1/3", span(333333, 333334), api.OK},
		{north, "1/3 -1/3 -1/3", span(-333334, -333333), api.OK},
		{skew, "5 0 0", span(3*one, 3*one), api.OK},
		{skew, "5 5 5", span(-one, -one), api.OK},
		{skew, "4/5 3/5 1/7", api.Span{}, api.OK},
		{skew, "1/7 0 0", span(85714, 85715), api.OK},
		{api.Dir{X: span(-one, one), Y: span(-2*one, 0), Z: span(0, 3*one)}, "2 3 -5", span(-23*one, 2*one), api.OK},
		{api.Dir{}, "3000 -3000 3000", api.Span{}, api.OK},
		{at(one, one, one), "1000 1000 1000", span(limit, limit), api.OK},
		{at(-one, -one, -one), "1000 1000 1000", span(-limit, -limit), api.OK},
		{at(one, one, one), "1000 1000 1000000001/1000000", api.Span{}, api.ErrRange},
		{at(one, one, one), "-1000 -1000 -1000000001/1000000", api.Span{}, api.ErrRange},
		// a coordinate has no enclosure, though what it is multiplied by is 0
		{api.Dir{}, "3001 0 0", api.Span{}, api.ErrRange},
		{api.Dir{}, "0 3001 0", api.Span{}, api.ErrRange},
		{api.Dir{}, "0 0 3001", api.Span{}, api.ErrRange},
		{api.Dir{}, "0 0 -30000000001/10000000", api.Span{}, api.ErrRange},
		// a product is out of the range
		{at(one+1, 0, 0), "3000 0 0", api.Span{}, api.ErrRange},
		{at(0, one+1, 0), "0 3000 0", api.Span{}, api.ErrRange},
		{at(0, 0, -one-1), "0 0 3000", api.Span{}, api.ErrRange},
		{at(one, 2*one, 0), "-1 3000/2 1", span(2999*one, 2999*one), api.OK},
		{at(one, 2*one, 0), "-2 3001/2 1", api.Span{}, api.ErrRange},
		// a sum is, though it is not with all that comes after it
		{at(one, one, one), "2000 1000 -1000", span(2000*one, 2000*one), api.OK},
		{at(one, one, one), "2000 1001 -1000", api.Span{}, api.ErrRange},
		{at(one, one, one), "-2000 -1001 1000", api.Span{}, api.ErrRange},
		{at(one, one, one), "2000 -1000 1001", span(2001*one, 2001*one), api.OK},
		{at(one, one, one), "-1000 2000 1001", span(2001*one, 2001*one), api.OK},
	} {
		if a, e := Along(c.d, vecOf(c.v)); a != c.want || e != c.e {
			t.Error(c, a, e)
		}
	}
}

func TestP63Dot(t *testing.T) {
	const one = 1000000
	wide := api.Dir{X: span(-one, 2*one), Y: span(0, one), Z: span(-3*one, -one)}
	for _, c := range []struct {
		a, b api.Dir
		want api.Span
		e    api.Errno
	}{
		{api.Dir{}, api.Dir{}, api.Span{}, api.OK},
		{at(one, 2*one, 3*one), at(4*one, 5*one, 6*one), span(32*one, 32*one), api.OK},
		{at(one, 2*one, 3*one), at(-4*one, 5*one, -6*one), span(-12*one, -12*one), api.OK},
		{wide, wide, span(-one, 14*one), api.OK},
		{wide, at(one, -one, one), span(-5*one, one), api.OK},
		{at(1, 1, 1), at(1, 1, 1), span(0, 3), api.OK},
		{at(1, 1, -1), at(-1, 1, 1), span(-2, 1), api.OK},
		{at(limit, 0, 0), at(one, limit, -limit), span(limit, limit), api.OK},
		{at(limit, 0, 0), at(one+1, 0, 0), api.Span{}, api.ErrRange},
		{at(limit, 1, 0), at(one, 1, 0), api.Span{}, api.ErrRange},
		{at(limit, 1, one), at(one, 1, -one), api.Span{}, api.ErrRange},
		{at(limit, one, 1), at(one, -one, 1), span(limit-one, limit-one+1), api.OK},
		{at(-limit, 0, 1), at(one, 0, -1), api.Span{}, api.ErrRange},
		{at(0, limit, -limit), at(0, limit, limit), api.Span{}, api.ErrRange},
	} {
		if a, e := Dot(c.a, c.b); a != c.want || e != c.e {
			t.Error(c, a, e)
		}
		if a, e := Dot(c.b, c.a); a != c.want || e != c.e {
			t.Error("exchanged", c, a, e)
		}
	}
}

// TestP63Anywhere compares with big numbers: enclosures and fractions of all sizes, so that each error comes.
func TestP63Anywhere(t *testing.T) {
	d := dice(4)
	alongs, dots := map[api.Errno]int{}, map[api.Errno]int{}
	for k := range 40000 {
		a, b := d.dir(12+k%21), d.dir(12+d.below(21))
		v := d.vec(1+3100>>(k%13), 44)
		want, code := wantDots(a, b)
		dots[code]++
		if n, e := Dot(a, b); n != want || e != code {
			t.Error("Dot", a, b, n, e, want, code)
		}
		want, code = wantAlong(a, v)
		alongs[code]++
		if n, e := Along(a, v); n != want || e != code {
			t.Error("Along", a, v, n, e, want, code)
		}
	}
	for _, many := range []map[api.Errno]int{alongs, dots} {
		if many[api.OK] < 5000 || many[api.ErrRange] < 5000 {
			t.Error("one-sided", alongs, dots)
		}
	}
}

// putSpan is a direction with another enclosure at one of its places.
func putSpan(d api.Dir, k int, a api.Span) api.Dir {
	*[]*api.Span{&d.X, &d.Y, &d.Z}[k] = a
	return d
}

func putFrac(v api.Vec, k int, a api.Frac) api.Vec {
	*[]*api.Frac{&v.X, &v.Y, &v.Z}[k] = a
	return v
}

// TestP63BadFirst has what is not valid at each place, with other coordinates that are out of the range, or not.
func TestP63BadFirst(t *testing.T) {
	dirs := []api.Dir{{}, at(limit, limit, limit), at(1, 2, 3)}
	vecs := []api.Vec{vecOf("0 0 0"), vecOf("1000000000000 4000 -4000"), vecOf("3000 3000 3000"), vecOf("1/2 1/3 1/4")}
	for k := range 3 {
		for _, d := range dirs {
			for _, a := range badSpans {
				bad := putSpan(d, k, a)
				for _, good := range append(dirs, bad) {
					for _, c := range [][2]api.Dir{{bad, good}, {good, bad}} {
						if n, e := Dot(c[0], c[1]); n != (api.Span{}) || e != api.ErrBad {
							t.Error("Dot", c, n, e)
						}
					}
				}
				for _, v := range vecs {
					for _, w := range []api.Vec{v, putFrac(v, k, api.Frac{})} {
						if n, e := Along(bad, w); n != (api.Span{}) || e != api.ErrBad {
							t.Error("Along", bad, w, n, e)
						}
					}
				}
			}
			for _, v := range vecs {
				for _, f := range badFracs {
					if n, e := Along(d, putFrac(v, k, f)); n != (api.Span{}) || e != api.ErrBad {
						t.Error("Along", d, v, f, n, e)
					}
				}
			}
		}
	}
}
