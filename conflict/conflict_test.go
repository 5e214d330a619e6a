package conflict

import (
	"fmt"
	"math/rand"
	"reflect"
	"slices"
	"testing"

	"semaphore/api"
	"semaphore/topo"
)

// ground has the sections a to f, P in b, Q in f, the signals G behind a, H behind d.
func ground(routes ...api.Route) api.Layout {
	for i := range routes {
		routes[i].Name = fmt.Sprint("r", i)
	}
	return api.Layout{Sections: []string{"a", "b", "c", "d", "e", "f"}, Points: []api.Point{{Name: "P", Section: 1}, {Name: "Q", Section: 5}}, Signals: []api.Signal{{Name: "G", Section: 0}, {Name: "H", Section: 3}}, Routes: routes}
}

func need(point int, reverse bool) api.Need { return api.Need{Point: point, Reverse: reverse} }

func TestPairs(t *testing.T) { // P6.1
	p, pr, q := need(0, false), need(0, true), need(1, false)
	for name, c := range map[string]struct {
		a, b api.Route
		want bool
	}{
		"the same signal":             {api.Route{Signal: 0, Path: []int{2}}, api.Route{Signal: 0, Path: []int{4}}, true},
		"paths b c, and c e":          {api.Route{Path: []int{1, 2}, Points: []api.Need{p}}, api.Route{Signal: 1, Path: []int{2, 4}}, true},
		"path and overlap":            {api.Route{Path: []int{2}}, api.Route{Signal: 1, Path: []int{4}, Overlap: []int{2}}, true},
		"overlaps":                    {api.Route{Path: []int{2}, Overlap: []int{5}, Points: []api.Need{q}}, api.Route{Signal: 1, Path: []int{4}, Overlap: []int{5}, Points: []api.Need{q}}, true},
		"P unlike, flank":             {api.Route{Path: []int{1}, Points: []api.Need{p}}, api.Route{Signal: 1, Path: []int{4}, Flank: []api.Need{pr}}, true},
		"P alike, flank":              {api.Route{Path: []int{1}, Points: []api.Need{p}}, api.Route{Signal: 1, Path: []int{4}, Flank: []api.Need{p}}, false},
		"both flanks unlike":          {api.Route{Path: []int{2}, Flank: []api.Need{p}}, api.Route{Signal: 1, Path: []int{4}, Flank: []api.Need{pr}}, true},
		"both flanks alike":           {api.Route{Path: []int{2}, Flank: []api.Need{p}}, api.Route{Signal: 1, Path: []int{4}, Flank: []api.Need{p}}, false},
		"path c, path e":              {api.Route{Path: []int{2}}, api.Route{Signal: 1, Path: []int{4}}, false},
		"needs elsewhere":             {api.Route{Path: []int{2}, Flank: []api.Need{q}}, api.Route{Signal: 1, Path: []int{4}, Flank: []api.Need{p}}, false},
		"points in the other's track": {api.Route{Path: []int{2}, Flank: []api.Need{p}}, api.Route{Signal: 1, Path: []int{1}}, true},
		"the first need counts":       {api.Route{Path: []int{2}, Points: []api.Need{p, pr}}, api.Route{Signal: 1, Path: []int{4}, Flank: []api.Need{p, pr}}, false},
		"points ahead of the flank":   {api.Route{Path: []int{2}, Points: []api.Need{pr}, Flank: []api.Need{p}}, api.Route{Signal: 1, Path: []int{4}, Flank: []api.Need{p}}, true},
		"a later need of the other":   {api.Route{Path: []int{2}, Flank: []api.Need{p}}, api.Route{Signal: 1, Path: []int{1}, Points: []api.Need{p, pr}}, false},
		"no paths":                    {api.Route{}, api.Route{Signal: 1}, false},
	} {
		l := ground(c.a, c.b)
		if Pair(l, 0, 1) != c.want || Pair(l, 1, 0) != c.want {
			t.Error(name, Pair(l, 0, 1), Pair(l, 1, 0))
		}
		if Pair(l, 0, 0) || Pair(l, 1, 1) {
			t.Error(name, "a route with itself")
		}
	}
}

func TestPairWrong(t *testing.T) { // P6.1
	l := ground(api.Route{Path: []int{2}}, api.Route{Path: []int{2}})
	for _, n := range []int{-1, 2, -1 << 63, 1<<63 - 1} {
		if Pair(l, 0, n) || Pair(l, n, 1) || Pair(l, n, n) || len(Of(l, n)) != 0 {
			t.Error("no route", n)
		}
	}
	if !Pair(l, 0, 1) {
		t.Error("they conflict")
	}
	l.Sections[0] = "b"
	if Pair(l, 0, 1) || len(Of(l, 0)) != 0 {
		t.Error("of a layout that may not be")
	}
}

func TestOf(t *testing.T) { // P6.2
	l := ground(api.Route{Path: []int{2}}, api.Route{Signal: 1, Path: []int{4}}, api.Route{Path: []int{4}}, api.Route{Signal: 1, Path: []int{2}})
	for n, want := range [][]int{{2, 3}, {2, 3}, {0, 1}, {0, 1}} {
		if got := Of(l, n); !slices.Equal(got, want) {
			t.Error(n, got)
		}
	}
}

func TestTable(t *testing.T) { // P6.3
	l := ground(api.Route{Path: []int{2}}, api.Route{Signal: 1, Path: []int{4}}, api.Route{Path: []int{4}}, api.Route{Signal: 1, Path: []int{2}})
	if got, err := Table(l); err != api.OK || !slices.Equal(got, []uint64{12, 12, 3, 3}) {
		t.Error(got, err)
	}
	l.Routes[1].Path = nil
	if got, err := Table(l); err != api.ErrLayout || len(got) != 0 {
		t.Error("not well-formed", got, err)
	}
	l.Routes[1].Signal = 7
	if got, err := Table(l); err != api.ErrArg || len(got) != 0 {
		t.Error("may not be", got, err)
	}
	if got, err := Table(api.Layout{}); err != api.OK || len(got) != 0 {
		t.Error("the empty one", got, err)
	}
	all := api.Layout{Sections: []string{"a", "b"}, Signals: []api.Signal{{Name: "s"}}}
	for i := range api.MaxRoutes {
		all.Routes = append(all.Routes, api.Route{Name: fmt.Sprint("r", i), Path: []int{1}})
	}
	got, err := Table(all)
	for i, x := range got {
		if x != ^uint64(1<<i) {
			t.Errorf("of 64 routes: %d %x", i, x)
		}
	}
	if err != api.OK || len(got) != api.MaxRoutes {
		t.Error("of 64 routes", err)
	}
}

func TestMemory(t *testing.T) { // P6.4
	make1 := func() api.Layout {
		path := append(make([]int, 0, 4), 2)
		return ground(api.Route{Path: path, Overlap: []int{4}, Points: nil}, api.Route{Signal: 1, Path: []int{4}})
	}
	l := make1()
	Pair(l, 0, 1)
	Of(l, 0)
	a, _ := Table(l)
	a[0] = 99
	b, _ := Table(l)
	if !reflect.DeepEqual(l, make1()) || l.Routes[0].Path[:2][1] != 0 || b[0] != 2 {
		t.Error("something was changed, or is shared")
	}
}

// anyLayout has routes of all sorts, most of them not well-formed.
func anyLayout(r *rand.Rand) api.Layout {
	sections := func() []int {
		var row []int
		for range r.Intn(3) {
			row = append(row, r.Intn(6))
		}
		return row
	}
	needs := func() []api.Need {
		var row []api.Need
		for range r.Intn(2) {
			row = append(row, need(r.Intn(2), r.Intn(2) == 0))
		}
		return row
	}
	var routes []api.Route
	for range 6 {
		routes = append(routes, api.Route{Signal: r.Intn(2), Path: sections(), Points: needs(), Overlap: sections(), Flank: needs()})
	}
	return ground(routes...)
}

func TestWhatFollows(t *testing.T) { // P6.5
	r := rand.New(rand.NewSource(1))
	free := 0
	for range 2000 {
		l := anyLayout(r)
		for a := range l.Routes {
			of := Of(l, a)
			for b := range l.Routes {
				p := Pair(l, a, b)
				if p != Pair(l, b, a) || p != slices.Contains(of, b) || a == b && p {
					t.Fatal(l.Routes[a], l.Routes[b])
				}
				if p || a == b {
					continue
				}
				free++
				if l.Routes[a].Signal == l.Routes[b].Signal || slices.ContainsFunc(topo.Track(l.Routes[a]), func(s int) bool { return slices.Contains(topo.Track(l.Routes[b]), s) }) {
					t.Fatal("a signal or a section in common", l.Routes[a], l.Routes[b])
				}
			}
		}
		if table, err := Table(l); err == api.OK {
			for a := range table {
				for b := range table {
					if table[a]>>b&1 == 1 != Pair(l, a, b) {
						t.Fatal("the table", l.Routes)
					}
				}
			}
		}
	}
	if free == 0 {
		t.Error("all conflict")
	}
}
