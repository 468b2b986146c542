package array

import (
	"slices"
	"strings"
	"testing"

	"fringe/api"
)

func TestP45Text(t *testing.T) {
	for s, l := range map[string][]api.Site{
		"":                 nil,
		"a 0 0\n":          sitesOf("a 0 0"),
		"a 0 0\nb 0 1\n":   sitesOf("a 0 0", "b 0 1"),
		"b 0 1\na 0 0\n":   sitesOf("b 0 1", "a 0 0"),
		"n-7 -1/2 20/19\n": sitesOf("n-7 -1/2 20/19"),
		"x -19/20 -20\n":   sitesOf("x -19/20 -20"),
		// An array it is not, but a list of valid stations.
		"a 0 0\na 0 0\n":                        sitesOf("a 0 0", "a 0 0"),
		"p 1 0\nq 1 1/2\n":                      sitesOf("p 1 0", "q 1 1/2"),
		strings.Repeat("a", 40) + " -1 -1/20\n": sitesOf(strings.Repeat("a", 40) + " -1 -1/20"),
		strings.Repeat("a 0 0\n", 8):            sitesOf("a 0 0", "a 0 0", "a 0 0", "a 0 0", "a 0 0", "a 0 0", "a 0 0", "a 0 0"),
	} {
		if r, e := Text(l); r != s || e != api.OK {
			t.Errorf("%q %q %v", s, r, e)
		}
		if m, e := Parse(s); !slices.Equal(m, l) || e != api.OK {
			t.Errorf("%q %v %v", s, m, e)
		}
	}
	if s, e := Text([]api.Site{}); s != "" || e != api.OK {
		t.Error(s, e)
	}
}

func TestP45TextErrors(t *testing.T) {
	wrong := func(l []api.Site, want api.Errno) {
		t.Helper()
		if s, e := Text(l); s != "" || e != want {
			t.Error(l, s, e, want)
		}
	}
	for k := range 8 {
		for _, name := range badNames {
			l := slices.Clone(mustArray(t, 8))
			l[k].Name = name
			wrong(l, api.ErrBad)
		}
		for _, s := range []string{"2", "-20/19"} {
			l := slices.Clone(mustArray(t, 8))
			l[k].S = read(s)
			wrong(l, api.ErrBad)
		}
		for _, a := range slices.Concat(badFracs, outside) {
			l := slices.Clone(mustArray(t, 8))
			l[k].S = a
			wrong(l, api.ErrBad)
			l = slices.Clone(mustArray(t, 8))
			l[k].T = a
			wrong(l, api.ErrBad)
		}
	}
	wrong(mustArray(t, 9), api.ErrMany)
	wrong(make([]api.Site, 9), api.ErrMany)
	wrong(make([]api.Site, 8), api.ErrBad)
}

func TestP45ParseNone(t *testing.T) {
	eight := strings.Repeat("a 0 0\n", 8)
	for _, s := range []string{
		"\n", " ", " \n", "  \n", "a\n", "a 0\n", "a 0 0", "a 0 0\nb 0 1", "a 0 0\n\n", "\na 0 0\n", "a 0 0\n\nb 0 1\n", "a 0 0 \n", " a 0 0\n", "a  0 0\n", "a 0  0\n", "a 0 0 0\n", "a 0 0 b 0 0\n",
		"a 0\n0\n", "a\n0 0\n", "a\t0 0\n", "a 0\t0\n", "a 0 0\r\n", "a 0 0\r", "a 0 0\n\r", "a 0 0\x00\n", "a 0 0\n ", "a 0 0\nb", "a 0 0;b 0 1\n", "a,0,0\n", "a 0\u00a00\n", "a 0 0\u2028",
		"a 00 0\n", "a -0 0\n", "a +1 0\n", "a 0/1 0\n", "a 2/4 0\n", "a 0 1/1\n", "a 0 +1\n", "a 0 1/02\n", "a 0 0.5\n", "a 1/0 0\n", "a 0 1/-2\n", "a - 0\n", "a 0 x\n", "a 0 /\n", "a 0 /2\n",
		"a 2 0\n", "a -2 0\n", "a 20/19 0\n", "a 1/21 0\n", "a 0 1/21\n", "a 0 21\n", "a 0 -21\n", "a 0 21/20\n", "a 1000000000000000000 0\n", "a 0 1000000000000000001\n", "a 0 99999999999999999999999\n",
		"0 0 0\n", "- 0 0\n", "A 0 0\n", "aB 0 0\n", "a_b 0 0\n", " 0 0\n", "a\x00 0 0\n", "a\xff 0 0\n", "é 0 0\n", strings.Repeat("a", 41) + " 0 0\n",
		"\xef\xbb\xbfa 0 0\n", eight + "a 0 0\n", eight + "\n", eight + "a", eight + " ", eight + eight, strings.Repeat("\n", 4000), strings.Repeat(" ", 4000), strings.Repeat("a 0 0\n", 100000),
		strings.Repeat("a 0 0\n", 7) + "a 0 0", strings.Repeat("a 0 0\n", 7) + "a 2 0\n", "a 2 0\n" + strings.Repeat("a 0 0\n", 7),
	} {
		if l, e := Parse(s); len(l) != 0 || e != api.ErrForm {
			t.Errorf("%q %v %v", s[:min(len(s), 100)], l, e)
		}
	}
	for _, name := range badNames {
		if l, e := Parse(name + " 0 0\n"); len(l) != 0 || e != api.ErrForm {
			t.Errorf("%q %v %v", name, l, e)
		}
	}
}

func TestP45P46Round(t *testing.T) {
	d := dice(1)
	for k := range 3000 {
		var l []api.Site
		for range k % 9 {
			l = append(l, d.site(k%2 == 0))
		}
		s, e := Text(l)
		if s != wantText(l) || e != api.OK {
			t.Error(l, s, e)
		}
		if m, e := Parse(s); !slices.Equal(m, l) || e != api.OK {
			t.Error(s, m, e)
		}
	}
}

// TestP45Altered changes a byte of a text, or leaves one out, or puts one in: what is still read has just this text.
func TestP45Altered(t *testing.T) {
	const bytes = "a-z/09 1\n2\x00\xff"
	base := "a 0 0\nb-2 -1/2 20/19\nc 1 -1/20\n"
	many := 0
	try := func(s string) {
		l, e := Parse(s)
		if e != api.OK {
			if len(l) != 0 || e != api.ErrForm {
				t.Errorf("%q %v %v", s, l, e)
			}
			return
		}
		many++
		for _, x := range l {
			if !wantStation(x) {
				t.Errorf("%q %v", s, x)
			}
		}
		if r := wantText(l); r != s {
			t.Errorf("%q %q", s, r)
		}
	}
	for k := range base {
		try(base[:k] + base[k+1:])
		for _, c := range []byte(bytes) {
			try(base[:k] + string([]byte{c}) + base[k+1:])
			try(base[:k] + string([]byte{c}) + base[k:])
		}
	}
	if many < 50 {
		t.Error("too few are read:", many)
	}
}
