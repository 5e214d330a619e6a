package inputs

import (
	"math/rand"
	"reflect"
	"slices"
	"testing"

	"semaphore/api"
)

func ground(sections, points, routes int) api.Layout {
	return api.Layout{Sections: make([]string, sections), Points: make([]api.Point, points), Routes: make([]api.Route, routes)}
}

func commands(c ...api.Command) api.Input { return api.Input{Commands: c} }

func TestRight(t *testing.T) { // P9.1
	l := ground(3, 2, 4)
	for _, in := range []api.Input{
		{}, {Occupied: 7, Normal: 3, Reverse: 3}, {Commands: []api.Command{}},
		commands(api.Command{Kind: api.Set, N: 3}, api.Command{Kind: api.Cancel, N: 3}, api.Command{Kind: api.Move, N: 1}),
		commands(api.Command{Kind: api.Set}, api.Command{Kind: api.Cancel}, api.Command{Kind: api.Move}), commands(make8()...),
	} {
		if !Right(l, in) {
			t.Error("not right:", in)
		}
	}
	for _, in := range []api.Input{
		{Occupied: 8}, {Occupied: 1 << 63}, {Normal: 4}, {Reverse: 4}, {Normal: 1 << 31}, {Reverse: 1 << 31},
		commands(api.Command{Kind: 0}), commands(api.Command{Kind: 4}), commands(api.Command{Kind: 255}),
		commands(api.Command{Kind: api.Set, N: 4}), commands(api.Command{Kind: api.Cancel, N: 4}), commands(api.Command{Kind: api.Move, N: 2}),
		commands(api.Command{Kind: api.Set, N: -1}), commands(api.Command{Kind: api.Cancel, N: -1 << 63}), commands(api.Command{Kind: api.Move, N: 1<<63 - 1}),
		commands(append(make8(), make8()[0])...), commands(api.Command{Kind: api.Set}, api.Command{}),
	} {
		if Right(l, in) {
			t.Error("right:", in)
		}
	}
}

// make8 is as many commands as may be.
func make8() []api.Command {
	return slices.Repeat([]api.Command{{Kind: api.Set, N: 1}}, api.MaxCommands)
}

func TestRightOfAnyLayout(t *testing.T) { // P9.1
	if !Right(api.Layout{}, api.Input{}) || Right(api.Layout{}, api.Input{Occupied: 1}) || Right(api.Layout{}, commands(api.Command{Kind: api.Set})) || Right(api.Layout{}, commands(api.Command{Kind: api.Move})) {
		t.Error("of the empty layout")
	}
	l := ground(200, 200, 200)
	if !Right(l, api.Input{Occupied: ^uint64(0), Normal: ^uint32(0), Reverse: ^uint32(0), Commands: []api.Command{{Kind: api.Set, N: 63}, {Kind: api.Cancel, N: 63}, {Kind: api.Move, N: 31}}}) {
		t.Error("as many as there may be")
	}
	for _, c := range []api.Command{{Kind: api.Set, N: 64}, {Kind: api.Cancel, N: 64}, {Kind: api.Move, N: 32}} {
		if Right(l, commands(c)) {
			t.Error("more than there may be", c)
		}
	}
}

func TestMerge(t *testing.T) { // P9.2
	set, cancel := api.Command{Kind: api.Set, N: 0}, api.Command{Kind: api.Cancel, N: 1}
	if got := Merge(api.Input{Occupied: 1, Normal: 3}, api.Input{Occupied: 2, Normal: 1}); !Same(got, api.Input{Occupied: 3, Normal: 1}) {
		t.Error(got)
	}
	if got := Merge(api.Input{Reverse: 6, Normal: 1}, api.Input{Reverse: 3, Normal: 2}); !Same(got, api.Input{Reverse: 2}) {
		t.Error(got)
	}
	for _, c := range []struct{ a, b, want []api.Command }{
		{[]api.Command{set}, []api.Command{set, cancel}, nil}, {[]api.Command{set, cancel}, []api.Command{cancel, set}, nil},
		{[]api.Command{set, cancel}, []api.Command{set, cancel}, []api.Command{set, cancel}}, {nil, []api.Command{set}, nil}, {nil, []api.Command{}, nil},
	} {
		if got := Merge(commands(c.a...), commands(c.b...)); !slices.Equal(got.Commands, c.want) {
			t.Error(c, got)
		}
	}
}

func TestSides(t *testing.T) { // P9.3
	if n, r := Sides(api.Input{Normal: 3, Reverse: 2}); n != 1 || r != 0 {
		t.Error(n, r)
	}
	if n, r := Sides(api.Input{Normal: 0xF000000C, Reverse: 0xA000000A}); n != 0x50000004 || r != 2 {
		t.Errorf("%x %x", n, r)
	}
}

func TestSame(t *testing.T) { // P9.4
	in := api.Input{Occupied: 1, Normal: 2, Reverse: 4, Commands: []api.Command{{Kind: 1, N: 2}, {Kind: 3, N: 4}}}
	if !Same(in, in) || !Same(api.Input{}, api.Input{Commands: []api.Command{}}) {
		t.Error("the same one")
	}
	for name, spoil := range map[string]func(*api.Input){
		"occupied": func(x *api.Input) { x.Occupied = 0 }, "normal": func(x *api.Input) { x.Normal = 0 }, "reverse": func(x *api.Input) { x.Reverse = 5 },
		"kind": func(x *api.Input) { x.Commands[1].Kind = 1 }, "N": func(x *api.Input) { x.Commands[0].N = 3 }, "fewer": func(x *api.Input) { x.Commands = x.Commands[:1] },
		"more": func(x *api.Input) { x.Commands = append(x.Commands, api.Command{}) }, "none": func(x *api.Input) { x.Commands = nil },
	} {
		x := in
		x.Commands = slices.Clone(in.Commands)
		spoil(&x)
		if Same(in, x) || Same(x, in) {
			t.Error(name)
		}
	}
}

func TestMemory(t *testing.T) { // P9.5
	row := append(make([]api.Command, 0, 4), api.Command{Kind: 1})
	a, b := commands(row...), commands(api.Command{Kind: 1})
	a.Commands = row
	got := Merge(a, b)
	got.Commands[0].N = 9
	_ = append(got.Commands, api.Command{Kind: 7})
	if a.Commands[0].N != 0 || b.Commands[0].N != 0 || row[:2][1].Kind != 0 {
		t.Error("what was handed in was changed")
	}
}

func anyInput(r *rand.Rand) api.Input {
	in := api.Input{Occupied: r.Uint64() & 7, Normal: r.Uint32() & 3, Reverse: r.Uint32() & 3}
	for range r.Intn(3) {
		in.Commands = append(in.Commands, api.Command{Kind: uint8(r.Intn(3)), N: r.Intn(2)})
	}
	return in
}

func TestWhatFollows(t *testing.T) { // P9.6
	r := rand.New(rand.NewSource(1))
	l := ground(3, 2, 2)
	for range 3000 {
		a, b := anyInput(r), anyInput(r)
		m := Merge(a, b)
		for _, x := range []api.Input{a, b} {
			if m.Occupied&x.Occupied != x.Occupied || m.Normal&^x.Normal != 0 || m.Reverse&^x.Reverse != 0 || len(m.Commands) > 0 && !slices.Equal(m.Commands, x.Commands) {
				t.Fatal("less safe than", x, m)
			}
		}
		if !Same(m, Merge(b, a)) || !Same(a, Merge(a, a)) || Right(l, a) && Right(l, b) && !Right(l, m) {
			t.Fatal(a, b, m)
		}
		if Same(a, b) != (a.Occupied == b.Occupied && a.Normal == b.Normal && a.Reverse == b.Reverse && (len(a.Commands)+len(b.Commands) == 0 || reflect.DeepEqual(a.Commands, b.Commands))) {
			t.Fatal("Same", a, b)
		}
	}
}
