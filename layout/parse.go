package layout

import (
	"semaphore/api"
	"semaphore/names"
)

// What a name leads to: the number of one of a kind.
type (
	section int
	point   int
	signal  int
	route   int
)

// parser is a layout so far, and what its names lead to.
type parser struct {
	l     api.Layout
	known map[string]any
}

// Parse: P4.1.
func Parse(s string) (api.Layout, api.Errno, int) {
	if len(s) > api.MaxText {
		return api.Layout{}, api.ErrLimit, 0
	}
	p := parser{known: map[string]any{}}
	for i, line := range names.Lines(s) {
		words, err := names.Words(line)
		if err == api.OK && len(words) > 0 {
			err = p.line(words)
		}
		if err != api.OK {
			return api.Layout{}, err, i + 1
		}
	}
	return p.l, api.OK, 0
}

// line takes a line of a word at least.
func (p *parser) line(words []string) api.Errno {
	switch words[0] {
	case "section":
		return p.section(words)
	case "point":
		return p.point(words)
	case "signal":
		return p.signal(words)
	case "route":
		return p.route(words)
	}
	return api.ErrLine
}

// taken: does the name lead to anything?
func (p *parser) taken(name string) bool {
	_, ok := p.known[name]
	return ok
}

// section takes the line of a section.
func (p *parser) section(words []string) api.Errno {
	if len(words) != 2 || !names.Right(words[1]) {
		return api.ErrLine
	}
	if p.taken(words[1]) {
		return api.ErrTwice
	}
	n := len(p.l.Sections)
	if n == api.MaxSections {
		return api.ErrLimit
	}
	p.l.Sections = append(p.l.Sections, words[1])
	p.known[words[1]] = section(n)
	return api.OK
}

// place tells the section of the line of points, or of a signal.
func (p *parser) place(words []string) (int, api.Errno) {
	if len(words) != 3 || !names.Right(words[1]) {
		return 0, api.ErrLine
	}
	if p.taken(words[1]) {
		return 0, api.ErrTwice
	}
	s, ok := p.known[words[2]].(section)
	if !ok {
		return 0, api.ErrUnknown
	}
	return int(s), api.OK
}

// point takes the line of points.
func (p *parser) point(words []string) api.Errno {
	s, err := p.place(words)
	if err != api.OK {
		return err
	}
	n := len(p.l.Points)
	if n == api.MaxPoints {
		return api.ErrLimit
	}
	p.l.Points = append(p.l.Points, api.Point{Name: words[1], Section: s})
	p.known[words[1]] = point(n)
	return api.OK
}

// signal takes the line of a signal.
func (p *parser) signal(words []string) api.Errno {
	s, err := p.place(words)
	if err != api.OK {
		return err
	}
	n := len(p.l.Signals)
	if n == api.MaxSignals {
		return api.ErrLimit
	}
	p.l.Signals = append(p.l.Signals, api.Signal{Name: words[1], Section: s})
	p.known[words[1]] = signal(n)
	return api.OK
}

// route takes the line of a route.
func (p *parser) route(words []string) api.Errno {
	groups := names.Groups(words)
	if len(groups) != 5 || len(groups[0]) != 3 || !names.Right(groups[0][1]) || !areNeeds(groups[2]) || !areNeeds(groups[4]) {
		return api.ErrLine
	}
	name := groups[0][1]
	if p.taken(name) {
		return api.ErrTwice
	}
	g, known := p.known[groups[0][2]].(signal)
	path, knownPath := p.sections(groups[1])
	points, knownPoints := p.needs(groups[2])
	overlap, knownOverlap := p.sections(groups[3])
	flank, knownFlank := p.needs(groups[4])
	if !known || !knownPath || !knownPoints || !knownOverlap || !knownFlank {
		return api.ErrUnknown
	}
	n := len(p.l.Routes)
	if n == api.MaxRoutes || max(len(path), len(points), len(overlap), len(flank)) > api.MaxParts {
		return api.ErrLimit
	}
	p.l.Routes = append(p.l.Routes, api.Route{Name: name, Signal: int(g), Path: path, Points: points, Overlap: overlap, Flank: flank})
	p.known[name] = route(n)
	return api.OK
}

// areNeeds: has each word a character at least, and a + or - behind?
func areNeeds(words []string) bool {
	for _, w := range words {
		last := len(w) - 1
		if last < 1 || w[last] != '+' && w[last] != '-' {
			return false
		}
	}
	return true
}

// sections tells the sections that the words name, and whether all are known.
func (p *parser) sections(words []string) ([]int, bool) {
	var row []int
	for _, w := range words {
		s, ok := p.known[w].(section)
		if !ok {
			return nil, false
		}
		row = append(row, int(s))
	}
	return row, true
}

// needs tells the needs that the words name, and whether all points are known.
func (p *parser) needs(words []string) ([]api.Need, bool) {
	var row []api.Need
	for _, w := range words {
		last := len(w) - 1
		d, ok := p.known[w[:last]].(point)
		if !ok {
			return nil, false
		}
		row = append(row, api.Need{Point: int(d), Reverse: w[last] == '-'})
	}
	return row, true
}
