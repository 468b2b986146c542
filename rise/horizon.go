package rise

import (
	"fringe/api"
	"fringe/array"
	"fringe/frac"
	"fringe/geoid"
	"fringe/sine"
	"fringe/track"
	"fringe/vec"
)

// States of a source.
const (
	down      = -1
	undecided = 0
	up        = 1
)

// finest is the greatest denominator of a limit.
const finest = 1000

// horizon is what decides whether a source is up for a station: the upright, and what the square of the part of a direction along it is compared with.
type horizon struct {
	upright api.Vec
	least   api.Span
}

// lookOut returns the horizons of all stations, or the first error that the globe, the stations, the source and the limit have.
func lookOut(g api.Globe, l []api.Site, s api.Source, limit api.Frac) ([]horizon, api.Errno) {
	places, e := array.Places(g, l)
	if e != api.OK {
		return nil, e
	}
	if e := track.Check(s); e != api.OK {
		return nil, e
	}
	if !isLimit(limit) {
		return nil, api.ErrBad
	}
	horizons := make([]horizon, len(places))
	for k, p := range places {
		horizons[k] = horizonAt(g, p, limit)
	}
	return horizons, api.OK
}

func isLimit(f api.Frac) bool {
	return frac.Check(f) == api.OK && f.Den <= finest && f.Num >= 0 && f.Num <= f.Den
}

// horizonAt returns the horizon of a station at a place. The numbers of places and of limits are too small for an error.
func horizonAt(g api.Globe, place api.Vec, limit api.Frac) horizon {
	// The upright is A B / M times the normal, and A B / M is the lesser one of A and B.
	normal, _ := geoid.Normal(g, place)
	upright, _ := vec.Scale(normal, api.Frac{Num: int64(min(g.A, g.B)), Den: 1})
	long, _ := vec.Dot(upright, upright)
	steep, _ := frac.Mul(limit, limit)
	a, _ := sine.Of(steep)
	b, _ := sine.Of(long)
	least, _ := sine.Mul(a, b)
	return horizon{upright: upright, least: least}
}

// state returns the state of a source in a direction. No coordinate of the direction and of the upright is greater than 1, but for rounding, so that there is no error.
func (h horizon) state(d api.Dir) int {
	along, _ := track.Along(d, h.upright)
	square, _ := sine.Mul(along, along)
	switch {
	case along.Lo > 0 && square.Lo > h.least.Hi:
		return up
	case along.Hi < 0 || square.Hi < h.least.Lo:
		return down
	}
	return undecided
}
