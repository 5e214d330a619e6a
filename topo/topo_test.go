package topo

import (
	"math/rand"
	"reflect"
	"slices"
	"testing"

	"semaphore/api"
)

var normal, reverse = api.Need{Point: 0}, api.Need{Point: 0, Reverse: true}

// yard is that of the chapter, with a route.
func yard(r api.Route) api.Layout {
	r.Name = "R"
	return api.Layout{Sections: []string{"a", "b", "c", "d"}, Points: []api.Point{{Name: "P", Section: 1}, {Name: "Q", Section: 3}}, Signals: []api.Signal{{Name: "G", Section: 0}}, Routes: []api.Route{r}}
}

func TestTrackAndNeeds(t *testing.T) { // P5.1
	r := api.Route{Path: []int{3, 1}, Overlap: []int{2, 3}, Points: []api.Need{normal}, Flank: []api.Need{{Point: 1}, reverse}}
	if got := Track(r); !slices.Equal(got, []int{3, 1, 2, 3}) {
		t.Error(got)
	}
	if got := Needs(r); !slices.Equal(got, []api.Need{normal, {Point: 1}, reverse}) {
		t.Error(got)
	}
	if len(Track(api.Route{})) != 0 || len(Needs(api.Route{})) != 0 {
		t.Error("of an empty route")
	}
}

func TestRoutes(t *testing.T) { // P5.2, P5.3
	q := api.Need{Point: 1}
	for name, c := range map[string]struct {
		r    api.Route
		want api.Errno
	}{
		"path b, P":               {api.Route{Path: []int{1}, Points: []api.Need{normal}}, api.OK},
		"P reverse":               {api.Route{Path: []int{1}, Points: []api.Need{reverse}}, api.OK},
		"path a":                  {api.Route{Path: []int{0}}, api.ErrLayout},
		"overlap a":               {api.Route{Path: []int{2}, Overlap: []int{0}}, api.ErrLayout},
		"no needs":                {api.Route{Path: []int{1}}, api.ErrLayout},
		"P and flank P":           {api.Route{Path: []int{1}, Points: []api.Need{normal}, Flank: []api.Need{reverse}}, api.ErrLayout},
		"P twice":                 {api.Route{Path: []int{1}, Points: []api.Need{normal, normal}}, api.ErrLayout},
		"no path":                 {api.Route{}, api.ErrLayout},
		"overlap alone":           {api.Route{Overlap: []int{2}}, api.ErrLayout},
		"path c":                  {api.Route{Path: []int{2}}, api.OK},
		"c twice":                 {api.Route{Path: []int{2, 2}}, api.ErrLayout},
		"c in path and overlap":   {api.Route{Path: []int{2}, Overlap: []int{2}}, api.ErrLayout},
		"overlap twice":           {api.Route{Path: []int{2}, Overlap: []int{1, 1}, Points: []api.Need{normal}}, api.ErrLayout},
		"P lies elsewhere":        {api.Route{Path: []int{2}, Points: []api.Need{normal}}, api.ErrLayout},
		"flank outside":           {api.Route{Path: []int{2}, Flank: []api.Need{normal, q}}, api.OK},
		"flank twice":             {api.Route{Path: []int{2}, Flank: []api.Need{normal, reverse}}, api.ErrLayout},
		"flank inside":            {api.Route{Path: []int{1}, Flank: []api.Need{normal}}, api.ErrLayout},
		"points of the overlap":   {api.Route{Path: []int{2}, Overlap: []int{1}, Points: []api.Need{normal}}, api.OK},
		"overlap without points":  {api.Route{Path: []int{2}, Overlap: []int{1}}, api.ErrLayout},
		"two points, one missing": {api.Route{Path: []int{1}, Overlap: []int{3}, Points: []api.Need{normal}}, api.ErrLayout},
		"two points":              {api.Route{Path: []int{3, 1}, Points: []api.Need{normal, q}}, api.OK},
	} {
		l := yard(c.r)
		if got := Route(l, 0); got != c.want {
			t.Error(name, got)
		}
		if got, n := Check(l); got != c.want || n != 0 {
			t.Error(name, got, n)
		}
	}
}

func TestErrors(t *testing.T) { // P5.2, P5.3
	l := yard(api.Route{Path: []int{2}})
	for _, n := range []int{-1, 1, -1 << 63, 1<<63 - 1} {
		if got := Route(l, n); got != api.ErrNone {
			t.Error(n, got)
		}
	}
	l.Routes = append(l.Routes, api.Route{Name: "S", Path: []int{1}}, api.Route{Name: "T"})
	if got, n := Check(l); got != api.ErrLayout || n != 1 {
		t.Error("the first one that is not well-formed", got, n)
	}
	if Route(l, 0) != api.OK || Route(l, 2) != api.ErrLayout {
		t.Error("each route by itself")
	}
	l.Routes[0].Path[0] = 9
	if got, n := Check(l); got != api.ErrArg || n != 0 {
		t.Error("a layout that may not be", got, n)
	}
	if Route(l, 1) != api.ErrArg || Route(l, 9) != api.ErrArg {
		t.Error("a route of one that may not be")
	}
	if got, n := Check(api.Layout{}); got != api.OK || n != 0 {
		t.Error("the empty layout", got, n)
	}
}

func TestMemory(t *testing.T) { // P5.4
	path := append(make([]int, 0, 4), 2)
	points := append(make([]api.Need, 0, 4), normal)
	r := api.Route{Path: path, Overlap: []int{1}, Points: points, Flank: []api.Need{{Point: 1}}}
	track, needs := Track(r), Needs(r)
	track[0], needs[0] = 77, reverse
	if path[0] != 2 || path[:2][1] != 0 || points[0] != normal || points[:2][1] != (api.Need{}) {
		t.Error("what was handed in was changed")
	}
	l := yard(r)
	Check(l)
	Route(l, 0)
	if !reflect.DeepEqual(l, yard(r)) {
		t.Error("the layout was changed")
	}
}

func TestOrderAndRest(t *testing.T) { // P5.5
	rnd := rand.New(rand.NewSource(1))
	good := []api.Route{
		{Name: "r0", Path: []int{1, 2}, Points: []api.Need{normal}},
		{Name: "r1", Path: []int{2}, Overlap: []int{3}, Points: []api.Need{{Point: 1, Reverse: true}}, Flank: []api.Need{reverse}},
		{Name: "r2", Path: []int{3, 2, 1}, Points: []api.Need{reverse, {Point: 1}}},
	}
	for range 50 {
		l := yard(api.Route{})
		l.Routes = slices.Clone(good)
		rnd.Shuffle(len(l.Routes), func(i, j int) { l.Routes[i], l.Routes[j] = l.Routes[j], l.Routes[i] })
		for i := range l.Routes {
			l.Routes[i].Path = slices.Clone(l.Routes[i].Path)
			rnd.Shuffle(len(l.Routes[i].Path), func(a, b int) {
				l.Routes[i].Path[a], l.Routes[i].Path[b] = l.Routes[i].Path[b], l.Routes[i].Path[a]
			})
		}
		l.Routes = l.Routes[:rnd.Intn(4)]
		if got, n := Check(l); got != api.OK || n != 0 {
			t.Fatal(l.Routes, got, n)
		}
	}
}
