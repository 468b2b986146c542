package array

import (
	"fringe/api"
	"fringe/geoid"
	"fringe/vec"
)

// station is a valid station with its place on a globe.
type station struct {
	api.Site
	place api.Vec
}

// settle returns stations with their places on a valid globe: ErrMany if there are too many, ErrBad if one is not valid.
func settle(g api.Globe, l []api.Site) ([]station, api.Errno) {
	if len(l) > api.MaxStations {
		return nil, api.ErrMany
	}
	stations := make([]station, len(l))
	for k, x := range l {
		place, e := geoid.At(g, x.S, x.T)
		if e != api.OK || !isName(x.Name) {
			return nil, api.ErrBad
		}
		stations[k] = station{Site: x, place: place}
	}
	return stations, api.OK
}

func isName(s string) bool {
	if len(s) > api.MaxName || s == "" || !isLetter(s[0]) {
		return false
	}
	for _, c := range []byte(s) {
		if !isLetter(c) && (c < '0' || c > '9') && c != '-' {
			return false
		}
	}
	return true
}

func isLetter(c byte) bool {
	return c >= 'a' && c <= 'z'
}

// clashes compares places, not parameters: all T give the same pole.
func (x station) clashes(y station) bool {
	return x.Name == y.Name || x.place == y.place
}

// lineTo returns the baseline from x to y.
func (x station) lineTo(y station) (api.Vec, api.Errno) {
	return vec.Sub(y.place, x.place)
}
