package copies

import (
	"reflect"
	"testing"

	"semaphore/api"
)

func made() api.Layout {
	return api.Layout{
		Sections: []string{"a"}, Points: []api.Point{{Name: "p"}}, Signals: []api.Signal{{Name: "s"}},
		Routes: []api.Route{{Name: "r", Path: []int{1}, Points: []api.Need{{Point: 2}}, Overlap: []int{3}, Flank: []api.Need{{Point: 4}}}},
	}
}

func TestLayout(t *testing.T) {
	l := made()
	c := Layout(l)
	if !reflect.DeepEqual(c, l) {
		t.Error("not the same", c)
	}
	c.Sections[0], c.Points[0].Section, c.Signals[0].Section, c.Routes[0].Name = "x", 9, 9, "x"
	c.Routes[0].Path[0], c.Routes[0].Points[0].Point, c.Routes[0].Overlap[0], c.Routes[0].Flank[0].Point = 9, 9, 9, 9
	if !reflect.DeepEqual(l, made()) {
		t.Error("memory is shared", l)
	}
	if !reflect.DeepEqual(Layout(api.Layout{}), api.Layout{}) {
		t.Error("the empty one")
	}
}

func TestInput(t *testing.T) {
	in := api.Input{Occupied: 1, Normal: 2, Reverse: 3, Commands: []api.Command{{Kind: 1, N: 2}}}
	c := Input(in)
	if !reflect.DeepEqual(c, in) {
		t.Error("not the same", c)
	}
	c.Commands[0].N = 9
	if in.Commands[0].N != 2 {
		t.Error("memory is shared")
	}
}
