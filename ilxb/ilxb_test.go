package ilxb

import (
	"fmt"
	"math/rand"
	"reflect"
	"testing"

	"semaphore/api"
	"semaphore/ilxa"
	"semaphore/layout"
	"semaphore/topo"
)

// yard is that of chapter 10: a route over b and c, P in b, the signal behind a.
const yard = "section a\nsection b\nsection c\npoint P b\nsignal G a\nroute R G : b c : P+ : :"

const a, b, c = 1, 2, 4

func parse(t *testing.T, text string) api.Layout {
	l, err, line := layout.Parse(text)
	if err != api.OK {
		t.Fatal(err, line)
	}
	return l
}

func machine(t *testing.T, text string) *Machine {
	m, err := New(parse(t, text))
	if err != api.OK {
		t.Fatal(err)
	}
	return m
}

func set(n int) api.Command    { return api.Command{Kind: api.Set, N: n} }
func cancel(n int) api.Command { return api.Command{Kind: api.Cancel, N: n} }
func move(n int) api.Command   { return api.Command{Kind: api.Move, N: n} }

func asked(occupied uint64, normal, reverse uint32, cs ...api.Command) api.Input {
	return api.Input{Occupied: occupied, Normal: normal, Reverse: reverse, Commands: cs}
}

// timer is a state of a cancelled route 0 with a timer.
func timer(n uint8) api.State {
	s := api.State{Locked: 1, Cancelled: 1}
	s.Timers[0] = n
	return s
}

func TestNew(t *testing.T) { // P11.1
	l := parse(t, yard)
	l.Routes[0].Points = nil
	if m, err := New(l); err != api.ErrLayout || m != nil {
		t.Error("not well-formed", err)
	}
	l.Routes[0].Signal = -1
	if m, err := New(l); err != api.ErrArg || m != nil {
		t.Error("may not be", err)
	}
	if m, err := New(api.Layout{}); err != api.OK || m == nil || !m.Right(api.State{}) {
		t.Error("the empty one", err)
	}
	var none *Machine
	s, out := none.Step(api.State{Locked: 1, Points: 1}, asked(1, 1, 1, set(0)))
	if s != (api.State{}) || out != (api.Output{}) || none.Tidy(api.State{Locked: 1, Points: 1}) != (api.State{}) || none.Right(api.State{}) {
		t.Error("a nil one")
	}
}

func TestTidy(t *testing.T) { // P11.2
	m := machine(t, yard)
	full := api.State{Locked: 1<<64 - 1, Used: 1<<64 - 1, Cancelled: 1<<64 - 1, Points: 1<<32 - 1}
	for i := range full.Timers {
		full.Timers[i] = 255
	}
	want := api.State{Locked: 1, Used: 1, Cancelled: 1, Points: 1}
	want.Timers[0] = api.Approach
	if got := m.Tidy(full); got != want {
		t.Error(got)
	}
	full.Locked = 2
	if got := m.Tidy(full); got != (api.State{Points: 1}) {
		t.Error("not locked", got)
	}
	full.Locked, full.Cancelled = 1, 2
	if got := m.Tidy(full); got != (api.State{Locked: 1, Used: 1, Points: 1}) {
		t.Error("not cancelled", got)
	}
}

func TestExamples(t *testing.T) { // P11.3
	m := machine(t, yard)
	locked, used := api.State{Locked: 1}, api.State{Locked: 1, Used: 1}
	for _, c := range []struct {
		name string
		s    api.State
		in   api.Input
		want api.State
		out  api.Output
	}{
		{"Set R", api.State{}, asked(0, 1, 0, set(0)), locked, api.Output{Proceed: 1}},
		{"P not detected", api.State{}, asked(0, 0, 0, set(0)), locked, api.Output{}},
		{"P on both sides", api.State{}, asked(0, 1, 1, set(0)), locked, api.Output{}},
		{"c occupied", api.State{}, asked(c, 1, 0, set(0)), api.State{}, api.Output{}},
		{"b occupied: used", locked, asked(b, 1, 0), used, api.Output{}},
		{"used, c occupied", used, asked(c, 1, 0), used, api.Output{}},
		{"used, clear", used, asked(a, 1, 0), api.State{}, api.Output{}},
		{"Cancel R, a occupied", locked, asked(a, 1, 0, cancel(0)), timer(19), api.Output{}},
		{"Cancel R", locked, asked(0, 1, 0, cancel(0)), api.State{}, api.Output{}},
		{"Cancel R, c occupied", locked, asked(c, 1, 0, cancel(0)), timer(0), api.Output{}},
		{"timer 1", timer(1), asked(0, 1, 0), timer(0), api.Output{}},
		{"timer 0", timer(0), asked(a, 1, 0), api.State{}, api.Output{}},
		{"timer 5, b occupied", timer(5), asked(b, 1, 0), func() api.State { s := timer(5); s.Used = 1; return s }(), api.Output{}},
		{"Move P", api.State{}, asked(0, 0, 1, move(0)), api.State{Points: 1}, api.Output{Points: 1}},
		{"Move P, b occupied", api.State{}, asked(b, 0, 1, move(0)), api.State{}, api.Output{}},
		{"Move P, R locked", locked, asked(0, 1, 0, move(0)), locked, api.Output{Proceed: 1}},
		{"Set R, P reverse", api.State{Points: 1}, asked(0, 1, 0, set(0)), locked, api.Output{Proceed: 1}},
		{"bits that are not there", api.State{}, asked(^uint64(7), 1<<32-1, 1<<32-2, set(0)), locked, api.Output{Proceed: 1}},
		{"the ninth command", api.State{}, asked(0, 1, 0, api.Command{}, set(1), move(1), move(-1), set(64), cancel(64), move(32), set(0), cancel(0)), locked, api.Output{Proceed: 1}},
	} {
		s, out := m.Step(c.s, c.in)
		if s != c.want || out != c.out {
			t.Errorf("%s: %v %v", c.name, s, out)
		}
	}
}

func TestRight(t *testing.T) { // P11.4
	m := machine(t, yard+"\nsection d\nroute S G : d : : : P-")
	for _, s := range []api.State{{}, {Points: 1}, {Locked: 1}, {Locked: 2, Points: 1}, {Locked: 1, Used: 1}, timer(20)} {
		if !m.Right(s) {
			t.Error("not right:", s)
		}
	}
	for _, s := range []api.State{{Locked: 4}, {Used: 1}, {Cancelled: 1}, {Points: 2}, {Locked: 3}, {Locked: 3, Points: 1}, {Locked: 1, Points: 1}, {Locked: 2}, {Locked: 1, Used: 2}, timer(21)} {
		if m.Right(s) {
			t.Error("right:", s)
		}
	}
}

func TestMemory(t *testing.T) { // P11.5
	l := parse(t, yard)
	m, _ := New(l)
	l.Routes[0].Path[0], l.Routes[0].Points[0].Reverse, l.Points[0].Section, l.Signals[0].Section = 2, true, 2, 2
	in := asked(0, 1, 0, append(make([]api.Command, 0, 4), set(0), set(1))...)
	if s, out := m.Step(api.State{}, in); s != (api.State{Locked: 1}) || out != (api.Output{Proceed: 1}) {
		t.Error("the layout is kept", s, out)
	}
	if !reflect.DeepEqual(in, asked(0, 1, 0, set(0), set(1))) {
		t.Error("the input was changed")
	}
}

// anyLayout is a well-formed one.
func anyLayout(r *rand.Rand, sections, points, signals, routes int) api.Layout {
	var l api.Layout
	for i := range sections {
		l.Sections = append(l.Sections, fmt.Sprint("s", i))
	}
	for i := range points {
		l.Points = append(l.Points, api.Point{Name: fmt.Sprint("p", i), Section: r.Intn(sections)})
	}
	for i := range signals {
		l.Signals = append(l.Signals, api.Signal{Name: fmt.Sprint("g", i), Section: r.Intn(sections)})
	}
	for i := 0; i < routes; {
		track := r.Perm(sections)[:1+r.Intn(min(4, sections-1))]
		cut := 1 + r.Intn(len(track))
		route := api.Route{Name: fmt.Sprint("r", i), Signal: r.Intn(signals), Path: track[:cut], Overlap: track[cut:]}
		for p, x := range l.Points {
			need := api.Need{Point: p, Reverse: r.Intn(2) == 0}
			if contains(track, x.Section) {
				route.Points = append(route.Points, need)
			} else if r.Intn(4) == 0 {
				route.Flank = append(route.Flank, need)
			}
		}
		l.Routes = append(l.Routes, route)
		if topo.Route(l, i) != api.OK {
			l.Routes = l.Routes[:i]
			continue
		}
		i++
	}
	return l
}

func contains(row []int, n int) bool {
	for _, x := range row {
		if x == n {
			return true
		}
	}
	return false
}

func anyState(r *rand.Rand, l api.Layout) api.State {
	s := api.State{Locked: r.Uint64() & r.Uint64(), Used: r.Uint64() & r.Uint64(), Cancelled: r.Uint64(), Points: r.Uint32()}
	for i := range s.Timers {
		s.Timers[i] = uint8(r.Intn(25)) * uint8(r.Intn(2))
	}
	return s
}

func anyInput(r *rand.Rand, l api.Layout) api.Input {
	in := asked(r.Uint64()&r.Uint64()&r.Uint64(), r.Uint32()|r.Uint32(), r.Uint32()&r.Uint32()&r.Uint32())
	if r.Intn(3) == 0 {
		in.Occupied = 0
	}
	if r.Intn(2) == 0 {
		in.Normal, in.Reverse = in.Reverse, in.Normal
	}
	for range r.Intn(11) {
		in.Commands = append(in.Commands, api.Command{Kind: uint8(r.Intn(5)), N: r.Intn(max(len(l.Routes), len(l.Points))+2) - 1})
	}
	return in
}

func TestBothAnswerTheSame(t *testing.T) { // P11.6
	r := rand.New(rand.NewSource(1))
	locks := 0
	for i := range 400 {
		sections := 2 + r.Intn(14)
		l := anyLayout(r, sections, r.Intn(6), 1+r.Intn(4), r.Intn(12))
		if i%50 == 0 {
			l = anyLayout(r, api.MaxSections, 16, api.MaxSignals, api.MaxRoutes)
		}
		one, err1 := ilxa.New(l)
		two, err2 := New(l)
		if err1 != api.OK || err2 != api.OK {
			t.Fatal(err1, err2, l)
		}
		var s api.State
		for j := range 150 {
			if j%10 == 9 {
				s = anyState(r, l)
			}
			in := anyInput(r, l)
			next, out := one.Step(s, in)
			next2, out2 := two.Step(s, in)
			if next != next2 || out != out2 || one.Tidy(s) != two.Tidy(s) || one.Right(s) != two.Right(s) {
				t.Fatal("unlike", l, s, in, next, next2, out, out2)
			}
			if next.Locked != 0 && two.Right(next) {
				locks++
			}
			s = next
		}
	}
	if locks < 1000 {
		t.Error("hardly anything was locked", locks)
	}
}
