package array

import (
	"strings"

	"fringe/api"
	"fringe/frac"
)

// ball is a globe for what is the same on all of them: which stations are valid.
var ball = api.Globe{A: 1, B: 1}

func Text(l []api.Site) (string, api.Errno) {
	stations, e := settle(ball, l)
	if e != api.OK {
		return "", e
	}
	var b strings.Builder
	for _, x := range stations {
		b.WriteString(x.text())
	}
	return b.String(), api.OK
}

// text returns the line of a station, whose parameters are valid.
func (x station) text() string {
	s, _ := frac.Text(x.S)
	t, _ := frac.Text(x.T)
	return x.Name + " " + s + " " + t + "\n"
}

func Parse(s string) ([]api.Site, api.Errno) {
	var l []api.Site
	for line := range strings.Lines(s) {
		line, ended := strings.CutSuffix(line, "\n")
		// What is too much is not read to its end.
		if !ended || len(l) == api.MaxStations {
			return nil, api.ErrForm
		}
		l = append(l, parseLine(line))
	}
	if _, e := settle(ball, l); e != api.OK {
		return nil, api.ErrForm
	}
	return l, api.OK
}

// parseLine returns a station that is not valid if a part of its line is missing, or cannot be read.
func parseLine(line string) api.Site {
	name, params, _ := strings.Cut(line, " ")
	s, t, _ := strings.Cut(params, " ")
	x := api.Site{Name: name}
	// With an error this is the zero value, which is no valid fraction.
	x.S, _ = frac.Parse(s)
	x.T, _ = frac.Parse(t)
	return x
}
