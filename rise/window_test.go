package rise

import (
	"math"
	"math/big"
	"slices"
	"testing"

	"fringe/api"
)

// row is n windows of one tick, with a gap of one tick behind each.
func row(n int) []api.Window {
	var l []api.Window
	for k := range n {
		l = append(l, api.Window{From: 2 * k, To: 2*k + 1})
	}
	return l
}

// badWindows are not valid, for each reason, and at each place.
func badWindows() [][]api.Window {
	var bad [][]api.Window
	for _, w := range []api.Window{{From: 0, To: 0}, {From: 1, To: 0}, {From: 5, To: -5}, {From: math.MaxInt, To: math.MinInt}, {From: math.MinInt, To: math.MinInt}, {From: math.MaxInt, To: math.MaxInt}} {
		bad = append(bad, []api.Window{w})
	}
	for _, l := range [][]api.Window{
		windows(0, 1, 1, 2), windows(0, 2, 1, 3), windows(0, 9, 1, 3), windows(5, 7, 0, 2), windows(0, 1, 0, 1), windows(-1, 0, 0, 1), windows(3, 4, 2, 3),
		windows(0, 1, 3, 3), windows(0, 1, 4, 3), windows(0, 1, 2, 2), windows(math.MinInt, math.MaxInt, math.MaxInt, math.MinInt), windows(0, math.MaxInt, math.MinInt, 1),
		windows(math.MinInt, 0, 0, math.MaxInt), windows(0, math.MaxInt, math.MaxInt, math.MaxInt),
	} {
		bad = append(bad, l, append(windows(-9, -7, -6, -5), l...))
	}
	for _, k := range []int{0, 1, 500, 998, 999} {
		l := row(1000)
		l[k].To = l[k].From
		m := row(1000)
		m[k].To++
		if k == 999 {
			m[k].From = m[k-1].To
		}
		bad = append(bad, l, m)
	}
	return bad
}

// manyWindows are too many, valid or not but for this.
func manyWindows() [][]api.Window {
	return [][]api.Window{row(1001), row(1002), row(5000), make([]api.Window, 1001), append(windows(5, 4), row(1000)...), append(row(1000), api.Window{From: 5, To: 4})}
}

func TestP73Check(t *testing.T) {
	for _, l := range [][]api.Window{
		nil, {}, windows(0, 1), windows(-5, 7), windows(0, 1, 2, 3), windows(-9, -8, -7, 0, 1, 2), windows(1000000, 2000000), windows(-1<<40, 1<<40),
		windows(math.MinInt, math.MaxInt), windows(math.MinInt, math.MinInt+1), windows(math.MaxInt-1, math.MaxInt), windows(math.MinInt, -1, 0, math.MaxInt), row(999), row(1000),
	} {
		if e := Check(l); e != api.OK {
			t.Error(l, e)
		}
	}
	for _, l := range badWindows() {
		if e := Check(l); e != api.ErrBad {
			t.Error(l, e)
		}
	}
	for _, l := range manyWindows() {
		if e := Check(l); e != api.ErrMany {
			t.Error(len(l), e)
		}
	}
}

func TestP73CheckAnywhere(t *testing.T) {
	d := dice(4)
	many := map[api.Errno]int{}
	for range 20000 {
		l := d.windows(-20, d.below(6), 3)
		for k := range l {
			if d.below(8) == 0 {
				l[k].From -= d.below(3)
			}
			if d.below(8) == 0 {
				l[k].To += d.below(3)
			}
		}
		e := Check(l)
		many[e]++
		if e != wantCheck(l) {
			t.Error(l, e)
		}
	}
	if many[api.OK] < 2000 || many[api.ErrBad] < 2000 {
		t.Error("one-sided", many)
	}
}

func TestP73Meet(t *testing.T) {
	for _, c := range []struct{ a, b, want []api.Window }{
		{nil, nil, nil},
		{windows(0, 5), nil, nil},
		{windows(0, 5), windows(0, 5), windows(0, 5)},
		{windows(0, 5), windows(3, 8), windows(3, 5)},
		{windows(0, 5), windows(5, 8), nil},
		{windows(0, 5), windows(4, 8), windows(4, 5)},
		{windows(0, 5), windows(-3, 0), nil},
		{windows(0, 5), windows(-3, 1), windows(0, 1)},
		{windows(0, 9), windows(1, 2, 3, 4, 6, 7), windows(1, 2, 3, 4, 6, 7)},
		{windows(0, 9), windows(-1, 2, 3, 4, 6, 17), windows(0, 2, 3, 4, 6, 9)},
		{windows(0, 2, 4, 6, 8, 10), windows(2, 4, 6, 8), nil},
		{windows(0, 3, 4, 7, 8, 11), windows(2, 5, 6, 9), windows(2, 3, 4, 5, 6, 7, 8, 9)},
		{windows(0, 3, 5, 8), windows(1, 3, 5, 6), windows(1, 3, 5, 6)},
		{windows(math.MinInt, math.MaxInt), windows(-1, 1), windows(-1, 1)},
		{windows(math.MinInt, 5), windows(3, math.MaxInt), windows(3, 5)},
		{windows(math.MinInt, math.MaxInt), windows(math.MinInt, -5, 5, math.MaxInt), windows(math.MinInt, -5, 5, math.MaxInt)},
		{windows(math.MinInt, -5), windows(5, math.MaxInt), nil},
		{windows(2000000, 3000000), windows(2500000, 1<<50), windows(2500000, 3000000)},
	} {
		for _, p := range [][2][]api.Window{{c.a, c.b}, {c.b, c.a}} {
			if l, e := Meet(p[0], p[1]); !slices.Equal(l, c.want) || e != api.OK {
				t.Error(p, l, e, c.want)
			}
		}
	}
}

// TestP73MeetAnywhere compares with the ticks themselves, one by one.
func TestP73MeetAnywhere(t *testing.T) {
	d := dice(5)
	some := 0
	for range 20000 {
		a, b := d.windows(-20, d.below(6), 1+d.below(9)), d.windows(-20, d.below(6), 1+d.below(9))
		l, e := Meet(a, b)
		if e != api.OK || !wantValid(l) {
			t.Error(a, b, l, e)
		}
		for tick := -21; tick < 110; tick++ {
			if inside(l, tick) != (inside(a, tick) && inside(b, tick)) {
				t.Error(a, b, l, tick)
			}
		}
		if len(l) > 2 {
			some++
		}
	}
	if some < 2000 {
		t.Error("one-sided", some)
	}
}

// comb is n windows of three ticks, with a gap of one tick behind each: two combs that are 2 ticks apart have the ends of their windows in common.
func comb(from, n int) []api.Window {
	var l []api.Window
	for k := range n {
		l = append(l, api.Window{From: from + 4*k, To: from + 4*k + 3})
	}
	return l
}

func TestP73MeetMany(t *testing.T) {
	for _, c := range []struct {
		n, m, many int
	}{{1, 1, 1}, {500, 500, 999}, {501, 500, 1000}, {500, 501, 999}, {501, 501, 1001}, {502, 501, 1002}, {1000, 500, 1000}, {1000, 501, 1002}, {1000, 1000, 1999}} {
		a, b := comb(0, c.n), comb(2, c.m)
		for _, p := range [][2][]api.Window{{a, b}, {b, a}} {
			l, e := Meet(p[0], p[1])
			if c.many > 1000 && (len(l) != 0 || e != api.ErrMany) || c.many <= 1000 && (len(l) != c.many || !wantValid(l) || e != api.OK) {
				t.Error(c, len(l), e)
			}
		}
	}
	if l, e := Meet(row(1000), row(1000)); !slices.Equal(l, row(1000)) || e != api.OK {
		t.Error(len(l), e)
	}
	if l, e := Meet(row(1000), windows(-5, 5000)); !slices.Equal(l, row(1000)) || e != api.OK {
		t.Error(len(l), e)
	}
}

// TestP73MeetErrors has the error of the first list before that of the second one.
func TestP73MeetErrors(t *testing.T) {
	good := [][]api.Window{nil, windows(0, 5), row(1000)}
	fail := func(a, b []api.Window, want api.Errno) {
		t.Helper()
		if l, e := Meet(a, b); len(l) != 0 || e != want {
			t.Error(len(a), len(b), l, e, want)
		}
	}
	for _, bad := range badWindows() {
		for _, l := range good {
			fail(bad, l, api.ErrBad)
			fail(l, bad, api.ErrBad)
		}
		for _, many := range manyWindows() {
			fail(bad, many, api.ErrBad)
			fail(many, bad, api.ErrMany)
		}
	}
	for _, many := range manyWindows() {
		for _, l := range good {
			fail(many, l, api.ErrMany)
			fail(l, many, api.ErrMany)
		}
	}
}

func TestP74Next(t *testing.T) {
	const least, greatest = math.MinInt, math.MaxInt
	l := windows(2, 5, 7, 12, 20, 21)
	for _, c := range []struct {
		l                []api.Window
		at, length, want int
		e                api.Errno
	}{
		{l, 0, 1, 2, api.OK},
		{l, 0, 3, 2, api.OK},
		{l, 0, 4, 7, api.OK},
		{l, 0, 5, 7, api.OK},
		{l, 0, 6, 0, api.ErrNone},
		{l, 2, 3, 2, api.OK},
		{l, 3, 2, 3, api.OK},
		{l, 3, 3, 7, api.OK},
		{l, 4, 1, 4, api.OK},
		{l, 5, 1, 7, api.OK},
		{l, 6, 1, 7, api.OK},
		{l, 9, 3, 9, api.OK},
		{l, 10, 3, 0, api.ErrNone},
		{l, 11, 1, 11, api.OK},
		{l, 12, 1, 20, api.OK},
		{l, 20, 1, 20, api.OK},
		{l, 20, 2, 0, api.ErrNone},
		{l, 21, 1, 0, api.ErrNone},
		{l, greatest, 1, 0, api.ErrNone},
		{l, least, 5, 7, api.OK},
		{l, 0, greatest, 0, api.ErrNone},
		{l, least, greatest, 0, api.ErrNone},
		{l, greatest, greatest, 0, api.ErrNone},
		{nil, 0, 1, 0, api.ErrNone},
		{windows(-5, 0), -9, 5, -5, api.OK},
		{windows(-5, 0), -1, 1, -1, api.OK},
		{windows(-5, 0), 0, 1, 0, api.ErrNone},
		{windows(-5, 5), -5, 5, -5, api.OK},
		{windows(-5, 5), 0, 5, 0, api.OK},
		{windows(0, 5), 0, 0, 0, api.ErrArg},
		{windows(0, 5), 0, -1, 0, api.ErrArg},
		{windows(0, 5), 9, least, 0, api.ErrArg},
		{nil, 0, 0, 0, api.ErrArg},
		// differences that are greater than the greatest number
		{windows(least, greatest), least, greatest, least, api.OK},
		{windows(least, greatest), 0, greatest, 0, api.OK},
		{windows(least, greatest), 1, greatest, 0, api.ErrNone},
		{windows(least, greatest), -1, greatest, -1, api.OK},
		{windows(least, greatest), greatest - 1, 1, greatest - 1, api.OK},
		{windows(least, greatest), greatest, 1, 0, api.ErrNone},
		{windows(least, -5, 5, 6), 0, greatest, 0, api.ErrNone},
		{windows(least, -5, 5, 6), greatest, 1, 0, api.ErrNone},
		{windows(least, -2, 5, 6), least, greatest, 0, api.ErrNone},
		{windows(least, -1, 5, 6), least, greatest, least, api.OK},
		{windows(2000000, 2000005), 0, 5, 2000000, api.OK},
	} {
		if n, e := Next(c.l, c.at, c.length); n != c.want || e != c.e {
			t.Error(c, n, e)
		}
	}
}

func TestP74Anywhere(t *testing.T) {
	d := dice(6)
	many := map[api.Errno]int{}
	for range 40000 {
		l := d.windows(-20, d.below(6), 1+d.below(9))
		at, length := d.below(60)-25, d.below(11)-1
		n, e := Next(l, at, length)
		many[e]++
		if want, code := wantNext(l, at, length); n != want || e != code {
			t.Error(l, at, length, n, e, want, code)
		}
	}
	for _, e := range []api.Errno{api.OK, api.ErrArg, api.ErrNone} {
		if many[e] < 2000 {
			t.Error("one-sided", many)
		}
	}
}

func TestP74Errors(t *testing.T) {
	for _, length := range []int{1, 0, -1, math.MinInt} {
		for _, l := range badWindows() {
			if n, e := Next(l, 0, length); n != 0 || e != api.ErrBad {
				t.Error(l, length, n, e)
			}
		}
		for _, l := range manyWindows() {
			if n, e := Next(l, 0, length); n != 0 || e != api.ErrMany {
				t.Error(len(l), length, n, e)
			}
		}
	}
}

// TestR7Windows calls everything with windows of numbers of any size; results are compared with their definitions.
func TestR7Windows(t *testing.T) {
	numbers := []int{math.MinInt, math.MinInt + 1, -1 << 62, -1 << 32, -1, 0, 1, 2, 1 << 32, 1 << 62, math.MaxInt - 1, math.MaxInt}
	d := dice(7)
	some := func() []api.Window {
		var l []int
		for range 2 * d.below(4) {
			l = append(l, numbers[d.below(len(numbers))])
		}
		if d.below(3) > 0 {
			slices.Sort(l)
		}
		return windows(l...)
	}
	many := map[api.Errno]int{}
	for range 60000 {
		a, b := some(), some()
		at, length := numbers[d.below(len(numbers))], numbers[d.below(len(numbers))]
		n, e := Next(a, at, length)
		many[e]++
		if want, code := wantNext(a, at, length); n != want || e != code {
			t.Error("Next", a, at, length, n, e, want, code)
		}
		want := wantCheck(a)
		if e := Check(a); e != want {
			t.Error("Check", a, e)
		}
		if want == api.OK {
			want = wantCheck(b)
		}
		l, e := Meet(a, b)
		if e != want || e != api.OK && len(l) > 0 || !wantValid(l) {
			t.Error("Meet", a, b, l, e)
		}
		if e == api.OK && sizeOf(l).Cmp(sizeOf(a)) > 0 {
			t.Error("Meet", a, b, l)
		}
		for _, tick := range numbers {
			if e == api.OK && inside(l, tick) != (inside(a, tick) && inside(b, tick)) {
				t.Error("Meet", a, b, l, tick)
			}
		}
	}
	for _, e := range []api.Errno{api.OK, api.ErrArg, api.ErrBad, api.ErrNone} {
		if many[e] < 1000 {
			t.Error("one-sided", many)
		}
	}
}

// sizeOf is how many ticks windows have.
func sizeOf(l []api.Window) *big.Int {
	n := new(big.Int)
	for _, w := range l {
		n.Add(n, new(big.Int).Sub(big.NewInt(int64(w.To)), big.NewInt(int64(w.From))))
	}
	return n
}
