package frac

import (
	"strconv"
	"strings"
	"testing"

	"fringe/api"
)

func TestP16Text(t *testing.T) {
	for s, a := range map[string]api.Frac{
		"0": {Num: 0, Den: 1}, "7": {Num: 7, Den: 1}, "-7": {Num: -7, Den: 1}, "1/2": {Num: 1, Den: 2}, "-1/2": {Num: -1, Den: 2}, "10/101": {Num: 10, Den: 101},
		"1000000000000000000": {Num: most, Den: 1}, "-1000000000000000000": {Num: -most, Den: 1},
		"1/1000000000000000000": {Num: 1, Den: most}, "-999999999999999999/1000000000000000000": {Num: 1 - most, Den: most},
	} {
		if r, e := Text(a); r != s || e != api.OK {
			t.Error(a, r, e)
		}
		if r, e := Parse(s); r != a || e != api.OK {
			t.Error(s, r, e)
		}
	}
}

func TestP16ParseNone(t *testing.T) {
	for _, s := range []string{
		"", "/", "-", "1/", "/2", "1//2", "1/2/3", "-/2", "1/-", "1-", "--1",
		"-0", "+1", "+0", "01", "-01", "00", "1/02", "01/2", "1/+2", "1/-2", "-1/-2", "1/0", "0/0", "-0/1",
		"7/1", "0/1", "0/5", "2/4", "-2/4", "31416/10000", "1000000000000000000/1000000000000000000",
		" 1", "1 ", "1 /2", "1/ 2", "1\n", "1/2\n", "\t1", "1\x00", "1_0", "0x1", "0b1", "1e3", "1.5", "1,000", "½", "\u0661", "\uff11", "−1", "1\u20442", "\xff", "one", "NaN",
		"1000000000000000001", "-1000000000000000001", "1/1000000000000000001", "9223372036854775807", "-9223372036854775808", "9223372036854775808",
		"1/9223372036854775808", "1/18446744073709551617", "18446744073709551617", "99999999999999999999999999/3",
		strings.Repeat("0", 4000) + "1", strings.Repeat("9", 4000), "1/" + strings.Repeat("7", 4000), strings.Repeat("/", 4000),
	} {
		if a, e := Parse(s); a != (api.Frac{}) || e != api.ErrForm {
			t.Errorf("%q %v %v", s, a, e)
		}
	}
}

func TestP16P17Round(t *testing.T) {
	l := fractions()
	d := dice(7)
	for range 5000 {
		l = append(l, d.frac())
	}
	for _, a := range l {
		want := strconv.FormatInt(a.Num, 10)
		if a.Den != 1 {
			want += "/" + strconv.FormatInt(a.Den, 10)
		}
		s, e := Text(a)
		if s != want || e != api.OK {
			t.Error(a, s, e)
		}
		if r, e := Parse(s); r != a || e != api.OK {
			t.Error(s, r, e)
		}
	}
}
