package agree

import (
	"math/rand"
	"reflect"
	"testing"

	"semaphore/api"
	"semaphore/inputs"
)

func occupied(x uint64, c ...api.Command) api.Input { return api.Input{Occupied: x, Commands: c} }

func reading(channel int, cycle int64, x uint64) Reading {
	return Reading{Channel: channel, Cycle: cycle, In: occupied(x)}
}

func begin(t *testing.T, a *Agree, cycle int64, in api.Input, want api.Errno) Reading {
	t.Helper()
	r, err := a.Begin(cycle, in)
	if err != want || err != api.OK && !reflect.DeepEqual(r, Reading{}) {
		t.Error("Begin", cycle, r, err)
	}
	return r
}

func hear(t *testing.T, a *Agree, v any, want api.Errno) {
	t.Helper()
	if err := a.Hear(v); err != want {
		t.Error("Hear", v, err)
	}
}

// merged fails, unless the side has merged these sections.
func merged(t *testing.T, a *Agree, x uint64) {
	t.Helper()
	if in, ok := a.Merged(); !ok || !inputs.Same(in, occupied(x)) {
		t.Error("merged", in, ok)
	}
}

func unmerged(t *testing.T, a *Agree) {
	t.Helper()
	if in, ok := a.Merged(); ok || !inputs.Same(in, api.Input{}) {
		t.Error("merged", in, ok)
	}
}

func TestNew(t *testing.T) { // P20.1
	for _, n := range []int{-1, 2, 1 << 62, -1 << 63} {
		if New(n) != nil {
			t.Error("no channel", n)
		}
	}
	var none *Agree
	begin(t, none, 1, api.Input{}, api.ErrNil)
	hear(t, none, "x", api.ErrNil)
	unmerged(t, none)
	if none.Cycle() != 0 || New(0).Cycle() != 0 || New(1) == nil {
		t.Error("at first")
	}
	unmerged(t, New(0))
}

func TestBothMerge(t *testing.T) { // P20.2, P20.4
	a, b := New(0), New(1)
	ra, rb := begin(t, a, 1, occupied(1), api.OK), begin(t, b, 1, occupied(2), api.OK)
	if !reflect.DeepEqual(ra, reading(0, 1, 1)) || !reflect.DeepEqual(rb, reading(1, 1, 2)) {
		t.Error(ra, rb)
	}
	unmerged(t, a)
	hear(t, a, rb, api.OK)
	hear(t, b, ra, api.OK)
	merged(t, a, 3)
	merged(t, b, 3)
	begin(t, a, 5, occupied(4), api.OK)
	if a.Cycle() != 5 {
		t.Error("the cycle", a.Cycle())
	}
	unmerged(t, a)
	for _, cycle := range []int64{5, 4, 0, -1, -1 << 63} {
		begin(t, a, cycle, occupied(9), api.ErrArg)
	}
	hear(t, a, reading(1, 5, 8), api.OK)
	merged(t, a, 12)
	begin(t, New(0), 0, api.Input{}, api.ErrArg)
	begin(t, New(0), 1<<63-1, api.Input{}, api.OK)
}

func TestHearWrong(t *testing.T) { // P20.3
	a := New(0)
	begin(t, a, 3, occupied(1), api.OK)
	r := reading(1, 3, 2)
	for _, v := range []any{"x", nil, 3, &r, (*Reading)(nil), reading(0, 3, 1), reading(2, 3, 1), reading(-1, 3, 1), api.Input{}, struct{}{}, []Reading{r}} {
		hear(t, a, v, api.ErrArg)
	}
	for _, cycle := range []int64{2, 0, -1, -1 << 63} {
		hear(t, a, reading(1, cycle, 1), api.ErrLate)
	}
	unmerged(t, a)
	hear(t, a, r, api.OK)
	merged(t, a, 3)
}

func TestHearTwice(t *testing.T) { // P20.3, P20.4
	a := New(1)
	begin(t, a, 3, occupied(1), api.OK)
	hear(t, a, reading(0, 3, 2), api.OK)
	hear(t, a, reading(0, 3, 2), api.OK)
	merged(t, a, 3)
	hear(t, a, reading(0, 3, 4), api.ErrState)
	unmerged(t, a)
	hear(t, a, reading(0, 3, 2), api.OK)
	hear(t, a, reading(0, 3, 4), api.ErrState)
	unmerged(t, a)
	begin(t, a, 4, occupied(1), api.OK)
	hear(t, a, Reading{Cycle: 4, In: occupied(2, api.Command{Kind: 1})}, api.OK)
	hear(t, a, reading(0, 4, 2), api.ErrState)
	unmerged(t, a)
}

func TestHearEarly(t *testing.T) { // P20.2, P20.3
	a := New(0)
	hear(t, a, reading(1, 2, 1), api.OK)
	hear(t, a, reading(1, 2, 1), api.OK)
	hear(t, a, reading(1, 2, 9), api.ErrState)
	hear(t, a, reading(1, 1, 1), api.ErrState)
	hear(t, a, reading(1, 1, 9), api.ErrState)
	unmerged(t, a)
	begin(t, a, 1, occupied(4), api.OK)
	unmerged(t, a)
	begin(t, a, 2, occupied(4), api.OK)
	merged(t, a, 5)
	hear(t, a, reading(1, 2, 1), api.OK)
	hear(t, a, reading(1, 5, 1), api.OK)
	hear(t, a, reading(1, 7, 2), api.OK) // that of 5 is let go
	hear(t, a, reading(1, 5, 1), api.ErrState)
	merged(t, a, 5)
	begin(t, a, 5, occupied(4), api.OK)
	unmerged(t, a)
	hear(t, a, reading(1, 5, 3), api.OK)
	merged(t, a, 7)
	begin(t, a, 8, occupied(4), api.OK) // that of 7 is let go
	unmerged(t, a)
	hear(t, a, reading(1, 9, 1), api.OK)
	begin(t, a, 10, occupied(4), api.OK)
	begin(t, a, 11, occupied(4), api.OK)
	unmerged(t, a)
}

func TestCycleZero(t *testing.T) { // P20.2, P20.3
	a := New(0)
	hear(t, a, reading(1, 0, 1), api.OK)
	hear(t, a, reading(1, 0, 2), api.ErrState)
	unmerged(t, a)
	begin(t, a, 1, occupied(2), api.OK)
	unmerged(t, a)
	hear(t, a, reading(1, 1, 1), api.OK)
	merged(t, a, 3)
}

func TestMemory(t *testing.T) { // P20.5
	row := func() []api.Command { return append(make([]api.Command, 0, 4), api.Command{Kind: 1}) }
	own, other, later := row(), row(), row()
	a := New(0)
	r, _ := a.Begin(1, occupied(1, own...))
	r.In.Commands[0].N = 7
	own[0].N = 8
	heard := Reading{Channel: 1, Cycle: 1, In: api.Input{Commands: other}}
	a.Hear(heard)
	a.Hear(Reading{Channel: 1, Cycle: 2, In: api.Input{Commands: later}})
	other[0].N, later[0].N = 9, 9
	in, ok := a.Merged()
	if !ok || len(in.Commands) != 1 || in.Commands[0] != (api.Command{Kind: 1}) {
		t.Error("something is kept or shared", in, ok)
	}
	in.Commands[0].N = 5
	if again, _ := a.Merged(); again.Commands[0].N != 0 {
		t.Error("answers are shared")
	}
	a.Begin(2, api.Input{Commands: row()})
	if in, ok := a.Merged(); !ok || len(in.Commands) != 1 {
		t.Error("what was kept for later was changed", in, ok)
	}
}

func TestWhatFollows(t *testing.T) { // P20.6
	r := rand.New(rand.NewSource(1))
	both := 0
	for range 400 {
		sides := [2]*Agree{New(0), New(1)}
		var way []Reading
		var got [2]map[int64]api.Input
		got[0], got[1] = map[int64]api.Input{}, map[int64]api.Input{}
		for range 120 {
			n := r.Intn(2)
			switch r.Intn(5) {
			case 0:
				in := occupied(r.Uint64()&7, make([]api.Command, r.Intn(2))...)
				if m, err := sides[n].Begin(sides[n].Cycle()+1+int64(r.Intn(8)/7), in); err == api.OK {
					way = append(way, m)
				}
			case 1:
				if len(way) > 0 {
					way = append(way, way[r.Intn(len(way))])
				}
			default:
				if len(way) > 0 {
					i := r.Intn(len(way))
					m := way[i]
					sides[1-m.Channel].Hear(m)
					way = append(way[:i], way[i+1:]...)
				}
			}
			for i, s := range sides {
				if in, ok := s.Merged(); ok {
					got[i][s.Cycle()] = in
				}
			}
		}
		for cycle, in := range got[0] {
			if other, ok := got[1][cycle]; ok {
				both++
				if !inputs.Same(in, other) {
					t.Fatal("they merged unlike", cycle, in, other)
				}
			}
		}
	}
	if both < 500 {
		t.Error("they hardly ever merged", both)
	}
}
