package vec

import (
	"testing"

	"fringe/api"
)

const e18 = "1000000000000000000"

// big18 is one less than the greatest number.
const big18 = "999999999999999999"

func TestP21Check(t *testing.T) {
	good := vecOf(t, "1/2 -3 0")
	for _, v := range []api.Vec{good, vecOf(t, e18+" -"+e18+" 1/"+e18), vecOf(t, "0 0 0")} {
		if e := Check(v); e != api.OK {
			t.Error(v, e)
		}
	}
	for _, a := range bad {
		for k := range 3 {
			if v := with(good, k, a); Check(v) != api.ErrBad {
				t.Error(v, Check(v))
			}
		}
	}
	if e := Check(api.Vec{}); e != api.ErrBad {
		t.Error("zero value", e)
	}
}

// with is a vector with another coordinate.
func with(v api.Vec, k int, a api.Frac) api.Vec {
	switch k {
	case 0:
		v.X = a
	case 1:
		v.Y = a
	default:
		v.Z = a
	}
	return v
}

func TestP21AddSubScale(t *testing.T) {
	for _, c := range []struct{ v, w, sum, difference string }{
		{"1 2 3", "4 5 6", "5 7 9", "-3 -3 -3"},
		{"1/6 -3/4 7", "1/10 3/4 -2/7", "4/15 0 47/7", "1/15 -3/2 51/7"},
		{"0 0 0", "1/3 -1 0", "1/3 -1 0", "-1/3 1 0"},
		{big18 + " 0 -" + big18, "1 0 -1", e18 + " 0 -" + e18, "999999999999999998 0 -999999999999999998"},
	} {
		v, w := vecOf(t, c.v), vecOf(t, c.w)
		if r, e := Add(v, w); r != vecOf(t, c.sum) || e != api.OK {
			t.Error("Add", c, r, e)
		}
		if r, e := Sub(v, w); r != vecOf(t, c.difference) || e != api.OK {
			t.Error("Sub", c, r, e)
		}
	}
	for _, c := range []struct{ v, f, want string }{
		{"1 2 3", "1/2", "1/2 1 3/2"}, {"-5/6 0 4", "-3/10", "1/4 0 -6/5"}, {"1 2 3", "0", "0 0 0"},
		{"499999999999999999 -500000000000000000 0", "2", "999999999999999998 -" + e18 + " 0"},
		{e18 + "/3 0 " + e18 + "/7", "3/" + e18, "1 0 3/7"},
	} {
		if r, e := Scale(vecOf(t, c.v), read(t, c.f)); r != vecOf(t, c.want) || e != api.OK {
			t.Error("Scale", c, r, e)
		}
	}
}

// TestP21OutOfRange has one coordinate just out of range, at each place, and the same just in range.
func TestP21OutOfRange(t *testing.T) {
	zero := vecOf(t, "0 0 0")
	for k := range 3 {
		top, one := with(zero, k, read(t, e18)), with(zero, k, read(t, "1"))
		least := with(zero, k, read(t, "-"+e18))
		part, third := with(zero, k, read(t, "1/"+e18)), with(zero, k, read(t, "1/3"))
		for _, c := range []struct {
			name string
			do   func(v, w api.Vec) (api.Vec, api.Errno)
			v, w api.Vec
		}{{"Add", Add, top, one}, {"Add", Add, least, least}, {"Add", Add, top, part}, {"Sub", Sub, least, one}, {"Sub", Sub, top, least}, {"Sub", Sub, part, third}} {
			if r, e := c.do(c.v, c.w); r != (api.Vec{}) || e != api.ErrRange {
				t.Error(c.name, k, c.v, c.w, r, e)
			}
		}
		for _, f := range []string{"2", "-2", "1000000000000000000", "1/2"} {
			v := top
			if f == "1/2" {
				v = part
			}
			if r, e := Scale(v, read(t, f)); r != (api.Vec{}) || e != api.ErrRange {
				t.Error("Scale", k, v, f, r, e)
			}
		}
		if r, e := Add(top, least); r != zero || e != api.OK {
			t.Error("Add", k, r, e)
		}
		if r, e := Sub(top, top); r != zero || e != api.OK {
			t.Error("Sub", k, r, e)
		}
		if r, e := Scale(top, read(t, "-1")); r != least || e != api.OK {
			t.Error("Scale", k, r, e)
		}
	}
}

func TestP22Dot(t *testing.T) {
	for _, c := range []struct{ v, w, want string }{
		{"1 2 3", "4 5 6", "32"},
		{"1 0 0", "0 1 0", "0"},
		{"1/2 1/3 1/6", "1/2 1/3 1/6", "7/18"},
		{"-1/2 2/3 0", "4 9/2 " + e18, "1"},
		{"0 0 0", e18 + " -" + e18 + " 1/" + e18, "0"},
		{big18 + " 1 -1", "1 1 1", big18},
		{"1 -1 " + e18, "1 1 1", e18},
		{e18 + "/3 0 0", "3/" + e18 + " 1 1", "1"},
		{"-" + big18 + " -1 0", "1 1 1", "-" + e18},
	} {
		if r, e := Dot(vecOf(t, c.v), vecOf(t, c.w)); r != read(t, c.want) || e != api.OK {
			t.Error(c, r, e)
		}
	}
}

// TestP22DotBetween has products and sums that have no fraction, although the dot product would have one.
func TestP22DotBetween(t *testing.T) {
	for _, c := range []struct{ name, v, w string }{
		{"sum of two", e18 + " 1 -1", "1 1 1"},
		{"sum of two, negative", "-" + e18 + " -1 1", "1 1 1"},
		{"a small part between", e18 + " 1/3 -1/3", "1 1 1"},
		{"denominators between", "1/" + e18 + " 1/3 -1/3", "1 1 1"},
		{"first product", e18 + " -" + e18 + " 0", "2 2 0"},
		{"second and third product", "0 " + e18 + " -" + e18, "0 2 2"},
		{"third product", "0 0 " + e18, "0 0 2"},
		{"sum of three", e18 + " 0 1", "1 0 1"},
	} {
		if r, e := Dot(vecOf(t, c.v), vecOf(t, c.w)); r != (api.Frac{}) || e != api.ErrRange {
			t.Error(c, r, e)
		}
	}
}

func TestP22Cross(t *testing.T) {
	for _, c := range []struct{ v, w, want string }{
		{"1 2 3", "4 5 6", "-3 6 -3"},
		{"1 0 0", "0 1 0", "0 0 1"},
		{"0 1 0", "0 0 1", "1 0 0"},
		{"0 0 1", "1 0 0", "0 1 0"},
		{"1/2 -1/3 2", "3/4 5 1/6", "-181/18 17/12 11/4"},
		{"2 4 6", "1 2 3", "0 0 0"},
		{e18 + " 0 0", "0 1 0", "0 0 " + e18},
		{e18 + " 1 0", "1 1 0", "0 0 " + big18},
	} {
		if r, e := Cross(vecOf(t, c.v), vecOf(t, c.w)); r != vecOf(t, c.want) || e != api.OK {
			t.Error(c, r, e)
		}
	}
}

func TestP22CrossBetween(t *testing.T) {
	for _, c := range []struct{ name, v, w string }{
		{"X: products that cancel", "0 " + e18 + " " + e18, "0 2 2"},
		{"Y: products that cancel", e18 + " 0 " + e18, "2 0 2"},
		{"Z: products that cancel", e18 + " " + e18 + " 0", "2 2 0"},
		{"X: the difference", "0 " + e18 + " -1", "0 1 1"},
		{"Y: the difference", "-1 0 " + e18, "1 0 1"},
		{"Z: the difference", e18 + " -1 0", "1 1 0"},
		{"X: the second product", "0 0 2", "0 " + e18 + " 0"},
		{"Y: the second product", "2 0 0", "0 0 " + e18},
		{"Z: the second product", "0 2 0", e18 + " 0 0"},
	} {
		if r, e := Cross(vecOf(t, c.v), vecOf(t, c.w)); r != (api.Vec{}) || e != api.ErrRange {
			t.Error(c, r, e)
		}
	}
}

// TestP21P22Anywhere compares with big numbers. Some results have to be in range, and some have to be out of it.
func TestP21P22Anywhere(t *testing.T) {
	d := dice(1)
	many := map[api.Errno]int{}
	for k := range 6000 {
		bits := uint64(4 + k%57)
		v, w, f := d.vec(bits), d.vec(bits), d.frac(bits)
		want, code := vectorOf(plus(exact(v.X), exact(w.X)), plus(exact(v.Y), exact(w.Y)), plus(exact(v.Z), exact(w.Z)))
		if r, e := Add(v, w); r != want || e != code {
			t.Error("Add", v, w, r, e, want, code)
		}
		want, code = vectorOf(less(exact(v.X), exact(w.X)), less(exact(v.Y), exact(w.Y)), less(exact(v.Z), exact(w.Z)))
		if r, e := Sub(v, w); r != want || e != code {
			t.Error("Sub", v, w, r, e, want, code)
		}
		want, code = vectorOf(product(exact(f), exact(v.X)), product(exact(f), exact(v.Y)), product(exact(f), exact(v.Z)))
		if r, e := Scale(v, f); r != want || e != code {
			t.Error("Scale", v, f, r, e, want, code)
		}
		want, code = wantCross(v, w)
		many[code]++
		if r, e := Cross(v, w); r != want || e != code {
			t.Error("Cross", v, w, r, e, want, code)
		}
		number, code := wantDot(v, w)
		many[code]++
		if r, e := Dot(v, w); r != number || e != code {
			t.Error("Dot", v, w, r, e, number, code)
		}
	}
	if many[api.OK] < 1000 || many[api.ErrRange] < 1000 {
		t.Error("one-sided", many)
	}
}

func TestP25Cross(t *testing.T) {
	d := dice(2)
	for k := range 2000 {
		bits := uint64(2 + k%6)
		v, w := d.vec(bits), d.vec(bits)
		c, e := Cross(v, w)
		o, f := Cross(w, v)
		back, g := Scale(o, api.Frac{Num: -1, Den: 1})
		if e != api.OK || f != api.OK || g != api.OK || c != back {
			t.Error("exchanged", v, w, c, o, e, f, g)
		}
		for _, u := range []api.Vec{v, w} {
			// With many bits, what lies between may be out of range.
			if a, e := Dot(c, u); (bits < 5 || e == api.OK) && (e != api.OK || a != api.Frac{Num: 0, Den: 1}) {
				t.Error("no right angle", v, w, c, a, e)
			}
		}
	}
}
