package model

import (
	"fmt"
	"math/rand"
	"reflect"
	"testing"

	"semaphore/api"
	"semaphore/ilxa"
	"semaphore/layout"
)

const yard = "section a\nsection b\nsection c\npoint P b\nsignal G a\nroute R G : b c : P+ : :"

const station = `section a
section b
section c
section d
section e
point P b
signal G a
signal H d
route R G : b c : P+ : :
route S H : c : : : P-
route T H : e : : :`

func parse(t *testing.T, text string) api.Layout {
	l, err, line := layout.Parse(text)
	if err != api.OK {
		t.Fatal(err, line)
	}
	return l
}

var (
	setR    = api.Input{Normal: 1, Commands: []api.Command{{Kind: api.Set, N: 0}}}
	idle    = api.Input{Normal: 1}
	locked  = api.State{Locked: 1}
	proceed = Shown{Out: api.Output{Proceed: 1}}
	stop    = Shown{Stop: true}
)

func TestRun(t *testing.T) { // P28.1
	l := parse(t, yard)
	states, outs, err := Run(l, []api.Input{idle, setR, {Occupied: 2}, idle})
	if err != api.OK || !reflect.DeepEqual(states, []api.State{{}, locked, {Locked: 1, Used: 1}, {}}) || !reflect.DeepEqual(outs, []api.Output{{}, {Proceed: 1}, {}, {}}) {
		t.Error(states, outs, err)
	}
	if states, outs, err := Run(l, nil); err != api.OK || len(states)+len(outs) != 0 {
		t.Error("of nothing", err)
	}
	if states, outs, err := Run(l, make([]api.Input, MaxCycles)); err != api.OK || len(states) != MaxCycles || len(outs) != MaxCycles {
		t.Error("as many as may be", err)
	}
	if states, outs, err := Run(l, make([]api.Input, MaxCycles+1)); err != api.ErrLimit || len(states)+len(outs) != 0 {
		t.Error("one more", err)
	}
}

func TestErrors(t *testing.T) { // P28.1, P28.2, P28.3
	l := parse(t, yard)
	many := MaxCycles + 1
	if s, err := Reach(l, make([]api.Input, many), make([]Shown, many-1)); err != api.ErrArg || len(s) > 0 {
		t.Error("not as many of both", err)
	}
	if s, err := Reach(l, make([]api.Input, many), make([]Shown, many)); err != api.ErrLimit || len(s) > 0 {
		t.Error("too many", err)
	}
	if s, err := Reach(l, make([]api.Input, MaxCycles), make([]Shown, MaxCycles)); err != api.OK || len(s) != 1 {
		t.Error("as many as may be", err)
	}
	l.Routes[0].Points = nil
	for _, want := range []api.Errno{api.ErrLayout, api.ErrArg} {
		s, err := Reach(l, nil, make([]Shown, 1))
		_, _, err2 := Run(l, make([]api.Input, many))
		if err != want || err2 != want || len(s) > 0 || Explains(l, nil, nil) {
			t.Error(want, err, err2)
		}
		l.Signals[0].Section = -1
	}
}

func TestExamples(t *testing.T) { // P28.2, P28.3
	l, ins := parse(t, yard), []api.Input{setR, idle}
	nothing := Shown{}
	for _, c := range []struct {
		shown []Shown
		want  []api.State
	}{
		{[]Shown{proceed, proceed}, []api.State{locked}}, {[]Shown{stop, proceed}, []api.State{locked}}, {[]Shown{stop, nothing}, []api.State{{}}}, {[]Shown{nothing, proceed}, nil},
		{[]Shown{stop, stop}, []api.State{{}, locked}}, {[]Shown{proceed, stop}, []api.State{locked}}, {[]Shown{nothing, stop}, nil}, {[]Shown{proceed, {Out: api.Output{Proceed: 1, Points: 1}}}, nil},
	} {
		got, err := Reach(l, ins, c.shown)
		if err != api.OK || len(got) != len(c.want) || !sameStates(got, c.want) || Explains(l, ins, c.shown) != (len(c.want) > 0) {
			t.Error(c.shown, got, err)
		}
	}
	if got, err := Reach(l, nil, nil); err != api.OK || !reflect.DeepEqual(got, []api.State{{}}) || !Explains(l, nil, nil) {
		t.Error("of nothing", got, err)
	}
}

func sameStates(a, b []api.State) bool {
	has := map[api.State]bool{}
	for _, s := range a {
		has[s] = true
	}
	for _, s := range b {
		if !has[s] {
			return false
		}
	}
	return len(has) == len(a)
}

// choices goes through all choices of the inputs.
func choices(m *ilxa.Machine, ins []api.Input, shown []Shown) []api.State {
	seen := map[api.State]bool{}
	var all []api.State
	for choice := range 1 << len(ins) {
		var s api.State
		ok := true
		for i, in := range ins {
			if choice>>i&1 == 0 {
				ok = ok && shown[i].Stop
				continue
			}
			var out api.Output
			s, out = m.Step(s, in)
			ok = ok && (shown[i].Stop || out == shown[i].Out)
		}
		if ok && !seen[s] {
			seen[s] = true
			all = append(all, s)
		}
	}
	return all
}

func anyInput(r *rand.Rand) api.Input {
	in := api.Input{Occupied: r.Uint64() & r.Uint64() & r.Uint64() & 31, Normal: 1}
	in.Commands = append(in.Commands, api.Command{Kind: uint8(1 + r.Intn(2)), N: r.Intn(3)})
	return in
}

func TestAllChoices(t *testing.T) { // P28.2
	r := rand.New(rand.NewSource(1))
	l := parse(t, station)
	m, _ := ilxa.New(l)
	for range 400 {
		var ins []api.Input
		for range r.Intn(9) {
			ins = append(ins, anyInput(r))
		}
		_, outs, _ := Run(l, ins)
		shown := make([]Shown, len(ins))
		for i := range shown {
			shown[i].Out = outs[i]
			if r.Intn(2) == 0 {
				shown[i] = stop
			} else if r.Intn(6) == 0 {
				shown[i].Out.Proceed ^= 1
			}
		}
		got, err := Reach(l, ins, shown)
		if want := choices(m, ins, shown); err != api.OK || len(got) != len(want) || !sameStates(got, want) {
			t.Fatal(ins, shown, got, want, err)
		}
	}
}

// wide is a layout of so many routes that have nothing in common.
func wide(t *testing.T, routes int) api.Layout {
	text := "section z\n"
	for i := range routes {
		text += fmt.Sprintf("section s%d\nsignal g%d z\nroute r%d g%d : s%d : : :\n", i, i, i, i, i)
	}
	return parse(t, text)
}

func TestStateLimit(t *testing.T) { // P28.2
	for _, routes := range []int{12, 13} {
		l := wide(t, routes)
		var ins []api.Input
		var shown []Shown
		for i := range routes {
			ins = append(ins, api.Input{Commands: []api.Command{{Kind: api.Set, N: i}}})
			shown = append(shown, stop)
		}
		got, err := Reach(l, ins, shown)
		if routes == 12 && (err != api.OK || len(got) != MaxStates) || routes == 13 && (err != api.ErrLimit || len(got) > 0) {
			t.Error(routes, len(got), err)
		}
		again, _ := Reach(l, ins, shown)
		if !reflect.DeepEqual(got, again) || Explains(l, ins, shown) != (routes == 12) {
			t.Error("not the same once more")
		}
		ins, shown = append(ins, idle), append(shown, Shown{Out: api.Output{Proceed: 1 << 63}})
		if got, err := Reach(l, ins, shown); (err == api.ErrLimit) != (routes == 13) || len(got) > 0 {
			t.Error("nothing is explained behind it", len(got), err)
		}
	}
}

func TestMemory(t *testing.T) { // P28.4
	l := parse(t, yard)
	ins, shown := append(make([]api.Input, 0, 4), setR), append(make([]Shown, 0, 4), stop)
	Run(l, ins)
	a, _ := Reach(l, ins, shown)
	a[0].Locked = 99
	b, _ := Reach(l, ins, shown)
	if b[0].Locked == 99 || !reflect.DeepEqual(ins, []api.Input{setR}) || !reflect.DeepEqual(shown, []Shown{stop}) || !reflect.DeepEqual(l, parse(t, yard)) || shown[:2][1] != (Shown{}) {
		t.Error("something was changed, or is shared")
	}
}

func TestWhatFollows(t *testing.T) { // P28.5
	r := rand.New(rand.NewSource(2))
	l := parse(t, station)
	for range 200 {
		var ins []api.Input
		for range 1 + r.Intn(30) {
			ins = append(ins, anyInput(r))
		}
		states, outs, _ := Run(l, ins)
		shown := make([]Shown, len(ins))
		for i := range shown {
			shown[i].Out = outs[i]
		}
		got, err := Reach(l, ins, shown)
		if err != api.OK || !reflect.DeepEqual(got, states[len(states)-1:]) {
			t.Fatal("a run isn't explained", got, err)
		}
		for range len(ins) / 3 {
			shown[r.Intn(len(shown))] = stop
		}
		if got, err := Reach(l, ins, shown); err != api.OK || !sameStates(got, states[len(states)-1:]) {
			t.Fatal("with all-stop in place", got, err)
		}
		for n := range len(ins) {
			if !Explains(l, ins[:n], shown[:n]) {
				t.Fatal("a beginning isn't explained")
			}
		}
		if i := r.Intn(len(shown)); !shown[i].Stop {
			shown[i].Out.Points ^= 1 << 31
			if Explains(l, ins, shown) {
				t.Fatal("explained, and can't be")
			}
		}
	}
}
