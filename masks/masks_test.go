package masks

import (
	"fmt"
	"math/rand"
	"reflect"
	"testing"

	"semaphore/api"
	"semaphore/conflict"
)

func example() api.Layout {
	return api.Layout{Sections: []string{"a", "b"}, Points: []api.Point{{Name: "P", Section: 1}}, Signals: []api.Signal{{Name: "G", Section: 0}}, Routes: []api.Route{{Name: "R", Path: []int{1}, Points: []api.Need{{Point: 0, Reverse: true}}}}}
}

// station has four routes from two signals, two of which end in the same track.
func station() api.Layout {
	return api.Layout{
		Sections: []string{"a", "b", "c", "d", "e", "f"}, Points: []api.Point{{Name: "P", Section: 1}, {Name: "Q", Section: 4}},
		Signals: []api.Signal{{Name: "G", Section: 0}, {Name: "H", Section: 5}},
		Routes: []api.Route{
			{Name: "r0", Signal: 0, Path: []int{1, 2}, Points: []api.Need{{Point: 0}}, Flank: []api.Need{{Point: 1, Reverse: true}}},
			{Name: "r1", Signal: 0, Path: []int{1, 3}, Points: []api.Need{{Point: 0, Reverse: true}}},
			{Name: "r2", Signal: 1, Path: []int{4}, Overlap: []int{3}, Points: []api.Need{{Point: 1, Reverse: true}}},
			{Name: "r3", Signal: 1, Path: []int{4, 2}, Points: []api.Need{{Point: 1}}},
		},
	}
}

func TestMakeExample(t *testing.T) { // P8.1
	want := Masks{Routes: []Route{{Track: 2, First: 2, Ahead: 1, Reverse: 1}}, Lies: []uint64{2}, All: 1, Points: 1, Tracks: 3}
	m, err := Make(example())
	if err != api.OK || !reflect.DeepEqual(m, want) {
		t.Errorf("%+v %d", m, err)
	}
	if normal, reverse := m.Need(1); normal != 0 || reverse != 1 {
		t.Error("Need", normal, reverse)
	}
}

func TestMakeStation(t *testing.T) { // P8.1
	m, err := Make(station())
	want := Masks{
		Routes: []Route{
			{Track: 6, First: 2, Ahead: 1, Normal: 1, Reverse: 2, Conflicts: 10},
			{Track: 10, First: 2, Ahead: 1, Reverse: 1, Conflicts: 5},
			{Track: 24, First: 16, Ahead: 32, Reverse: 2, Conflicts: 10},
			{Track: 20, First: 16, Ahead: 32, Normal: 2, Conflicts: 5},
		}, Lies: []uint64{2, 16}, All: 15, Points: 3, Tracks: 63,
	}
	if err != api.OK || !reflect.DeepEqual(m, want) {
		t.Errorf("%+v %d", m, err)
	}
}

func TestMakeWrong(t *testing.T) { // P8.1
	l := example()
	l.Routes[0].Points = nil
	if m, err := Make(l); err != api.ErrLayout || !reflect.DeepEqual(m, Masks{}) {
		t.Error("not well-formed", m, err)
	}
	l.Sections[0] = ""
	if m, err := Make(l); err != api.ErrArg || !reflect.DeepEqual(m, Masks{}) {
		t.Error("may not be", m, err)
	}
	if m, err := Make(api.Layout{}); err != api.OK || m.All != 0 || m.Points != 0 || m.Tracks != 0 || len(m.Routes)+len(m.Lies) != 0 {
		t.Error("the empty one", m, err)
	}
}

func TestMakeGreatest(t *testing.T) { // P8.1
	var l api.Layout
	for i := range api.MaxSections {
		l.Sections = append(l.Sections, fmt.Sprint("s", i))
	}
	for i := range api.MaxPoints {
		l.Points = append(l.Points, api.Point{Name: fmt.Sprint("p", i), Section: 63})
		l.Signals = append(l.Signals, api.Signal{Name: fmt.Sprint("g", i), Section: 0})
	}
	for i := range api.MaxRoutes {
		l.Routes = append(l.Routes, api.Route{Name: fmt.Sprint("r", i), Signal: i % 32, Path: []int{62}, Flank: []api.Need{{Point: 31, Reverse: true}}})
	}
	m, err := Make(l)
	if err != api.OK || m.All != ^uint64(0) || m.Tracks != ^uint64(0) || m.Points != ^uint32(0) || m.Routes[63] != (Route{Track: 1 << 62, First: 1 << 62, Ahead: 1, Reverse: 1 << 31, Conflicts: 1<<63 - 1}) || m.Lies[31] != 1<<63 {
		t.Errorf("%+v %d", m.Routes[63], err)
	}
}

func TestNeedAndClash(t *testing.T) { // P8.2, P8.3
	m, _ := Make(station())
	for routes, want := range map[uint64][3]uint64{0: {0, 0, 0}, 1: {1, 2, 10}, 2: {0, 1, 5}, 5: {1, 2, 10}, 15: {3, 3, 15}, 1 << 40: {0, 0, 0}, ^uint64(0): {3, 3, 15}, 16: {0, 0, 0}} {
		normal, reverse := m.Need(routes)
		if uint64(normal) != want[0] || uint64(reverse) != want[1] || m.Clash(routes) != want[2] {
			t.Errorf("%x: %x %x %x", routes, normal, reverse, m.Clash(routes))
		}
	}
}

func TestMasksByHand(t *testing.T) { // P8.2, P8.3
	m := Masks{Routes: make([]Route, 70)}
	m.Routes[63] = Route{Normal: 1, Reverse: 2, Conflicts: 4}
	for i := 64; i < 70; i++ {
		m.Routes[i] = Route{Normal: 8, Reverse: 8, Conflicts: 8}
	}
	normal, reverse := m.Need(^uint64(0))
	if normal != 1 || reverse != 2 || m.Clash(^uint64(0)) != 4 {
		t.Error("past the first 64", normal, reverse)
	}
	if normal, reverse := (Masks{}).Need(1); normal|reverse != 0 || (Masks{}).Clash(1) != 0 {
		t.Error("none")
	}
}

func TestMemory(t *testing.T) { // P8.4
	l := station()
	a, _ := Make(l)
	a.Routes[0].Track, a.Lies[0] = 0, 0
	b, _ := Make(l)
	if b.Routes[0].Track != 6 || b.Lies[0] != 2 || !reflect.DeepEqual(l, station()) {
		t.Error("something was changed, or is shared")
	}
	l.Routes[0].Path[0] = 5
	if b.Routes[0].Track != 6 {
		t.Error("the layout is kept")
	}
}

func TestWhatFollows(t *testing.T) { // P8.5
	r := rand.New(rand.NewSource(1))
	m, _ := Make(station())
	for range 500 {
		routes := r.Uint64() & 15
		normal, reverse := m.Need(routes)
		if m.Clash(routes)&routes == 0 && normal&reverse != 0 {
			t.Fatalf("%x", routes)
		}
	}
	for a := range 4 {
		for b := range 4 {
			if m.Clash(1<<a)>>b&1 == 1 != conflict.Pair(station(), a, b) {
				t.Error(a, b)
			}
		}
	}
}
