// Package copies has copies of what is handed in, for the layers that keep it.
package copies

import (
	"slices"

	"semaphore/api"
)

// Layout tells the layout in memory of its own.
func Layout(l api.Layout) api.Layout {
	l.Sections, l.Points, l.Signals, l.Routes = slices.Clone(l.Sections), slices.Clone(l.Points), slices.Clone(l.Signals), slices.Clone(l.Routes)
	for n, r := range l.Routes {
		r.Path, r.Points, r.Overlap, r.Flank = slices.Clone(r.Path), slices.Clone(r.Points), slices.Clone(r.Overlap), slices.Clone(r.Flank)
		l.Routes[n] = r
	}
	return l
}

// Input tells the input in memory of its own.
func Input(in api.Input) api.Input {
	in.Commands = slices.Clone(in.Commands)
	return in
}
