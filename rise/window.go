package rise

import "fringe/api"

// mostWindows is how many windows a list may have.
const mostWindows = 1000

func Check(l []api.Window) api.Errno {
	if len(l) > mostWindows {
		return api.ErrMany
	}
	for k, w := range l {
		if w.From >= w.To || k > 0 && l[k-1].To >= w.From {
			return api.ErrBad
		}
	}
	return api.OK
}

// gather returns the valid windows that have just the ticks, from one on and less than another one, that are in.
func gather(from, to int, in func(tick int) bool) []api.Window {
	var l []api.Window
	for tick := from; tick < to; tick++ {
		if !in(tick) {
			continue
		}
		if n := len(l); n > 0 && l[n-1].To == tick {
			l[n-1].To++
		} else {
			l = append(l, api.Window{From: tick, To: tick + 1})
		}
	}
	return l
}

func Meet(a, b []api.Window) ([]api.Window, api.Errno) {
	if e := Check(a); e != api.OK {
		return nil, e
	}
	if e := Check(b); e != api.OK {
		return nil, e
	}
	var met []api.Window
	for len(a) > 0 && len(b) > 0 {
		if w := overlap(a[0], b[0]); w.From < w.To {
			met = append(met, w)
		}
		// The window that ends first meets nothing that comes later.
		if a[0].To < b[0].To {
			a = a[1:]
		} else {
			b = b[1:]
		}
	}
	if len(met) > mostWindows {
		return nil, api.ErrMany
	}
	return met, api.OK
}

// overlap returns a window that does not end after its beginning if v and w have no tick in common.
func overlap(v, w api.Window) api.Window {
	return api.Window{From: max(v.From, w.From), To: min(v.To, w.To)}
}

func Next(l []api.Window, at, length int) (int, api.Errno) {
	if e := Check(l); e != api.OK {
		return 0, e
	}
	if length < 1 {
		return 0, api.ErrArg
	}
	for _, w := range l {
		start := max(w.From, at)
		// A difference of two numbers of 64 bits may be too great for one that has a sign.
		if start < w.To && uint(w.To)-uint(start) >= uint(length) {
			return start, api.OK
		}
	}
	return 0, api.ErrNone
}
