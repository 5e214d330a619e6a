package ilxa

import (
	"math/rand"
	"reflect"
	"testing"

	"semaphore/api"
	"semaphore/conflict"
	"semaphore/layout"
	"semaphore/topo"
)

// yard is that of the chapter: a route over b and c, P in b, the signal behind a.
const yard = "section a\nsection b\nsection c\npoint P b\nsignal G a\nroute R G : b c : P+ : :"

// station has six routes; 0 and 1, 2 and 3, 4 and 5 begin at the same signals; 0 needs T of 4 and 5 on its flank; 1 and 2, 0 and 3 meet.
const station = `section a
section b
section c
section d
section e
section f
section g
section h
point P b
point Q e
point T h
signal G a
signal H f
signal K g
route R0 G : b c : P+ : : T+
route R1 G : b d : P- : :
route R2 H : e : Q- : d :
route R3 H : e c : Q+ : :
route R4 K : h : T- : :
route R5 K : h : T+ : :`

const a, b, c = 1, 2, 4

func parse(t *testing.T, text string) api.Layout {
	l, err, line := layout.Parse(text)
	if err != api.OK {
		t.Fatal(err, line)
	}
	return l
}

func machine(t *testing.T, text string) *Machine {
	m, err := New(parse(t, text))
	if err != api.OK {
		t.Fatal(err)
	}
	return m
}

func set(n int) api.Command    { return api.Command{Kind: api.Set, N: n} }
func cancel(n int) api.Command { return api.Command{Kind: api.Cancel, N: n} }
func move(n int) api.Command   { return api.Command{Kind: api.Move, N: n} }

func asked(occupied uint64, normal, reverse uint32, cs ...api.Command) api.Input {
	return api.Input{Occupied: occupied, Normal: normal, Reverse: reverse, Commands: cs}
}

// timer is a state of a cancelled route 0 with a timer.
func timer(n uint8) api.State {
	s := api.State{Locked: 1, Cancelled: 1}
	s.Timers[0] = n
	return s
}

func TestNew(t *testing.T) { // P10.1
	l := parse(t, yard)
	l.Routes[0].Points = nil
	if m, err := New(l); err != api.ErrLayout || m != nil {
		t.Error("not well-formed", err)
	}
	l.Routes[0].Signal = -1
	if m, err := New(l); err != api.ErrArg || m != nil {
		t.Error("may not be", err)
	}
	if m, err := New(api.Layout{}); err != api.OK || m == nil || !m.Right(api.State{}) {
		t.Error("the empty one", err)
	}
	var none *Machine
	s, out := none.Step(api.State{Locked: 1, Points: 1}, asked(1, 1, 1, set(0)))
	if s != (api.State{}) || out != (api.Output{}) || none.Tidy(api.State{Locked: 1, Points: 1}) != (api.State{}) || none.Right(api.State{}) {
		t.Error("a nil one")
	}
}

func TestTidy(t *testing.T) { // P10.2
	m := machine(t, yard)
	full := api.State{Locked: 1<<64 - 1, Used: 1<<64 - 1, Cancelled: 1<<64 - 1, Points: 1<<32 - 1}
	for i := range full.Timers {
		full.Timers[i] = 255
	}
	want := api.State{Locked: 1, Used: 1, Cancelled: 1, Points: 1}
	want.Timers[0] = api.Approach
	if got := m.Tidy(full); got != want {
		t.Error(got)
	}
	full.Locked = 2
	if got := m.Tidy(full); got != (api.State{Points: 1}) {
		t.Error("not locked", got)
	}
	full.Locked, full.Cancelled = 1, 2
	if got := m.Tidy(full); got != (api.State{Locked: 1, Used: 1, Points: 1}) {
		t.Error("not cancelled", got)
	}
	if got := m.Tidy(timer(20)); got != timer(20) {
		t.Error("the greatest timer", got)
	}
	if got := m.Tidy(timer(21)); got != timer(20) {
		t.Error("a greater timer", got)
	}
}

func TestExamples(t *testing.T) { // P10.3
	m := machine(t, yard)
	locked := api.State{Locked: 1}
	for _, c := range []struct {
		name string
		s    api.State
		in   api.Input
		want api.State
		out  api.Output
	}{
		{"Set R", api.State{}, asked(0, 1, 0, set(0)), locked, api.Output{Proceed: 1}},
		{"P not detected", api.State{}, asked(0, 0, 0, set(0)), locked, api.Output{}},
		{"P on both sides", api.State{}, asked(0, 1, 1, set(0)), locked, api.Output{}},
		{"P on the other side", api.State{}, asked(0, 0, 1, set(0)), locked, api.Output{}},
		{"c occupied", api.State{}, asked(c, 1, 0, set(0)), api.State{}, api.Output{}},
		{"a occupied", api.State{}, asked(a, 1, 0, set(0)), locked, api.Output{Proceed: 1}},
		{"it stays", locked, asked(0, 1, 0), locked, api.Output{Proceed: 1}},
		{"b occupied: used", locked, asked(b, 1, 0), api.State{Locked: 1, Used: 1}, api.Output{}},
		{"c occupied", locked, asked(c, 1, 0), locked, api.Output{}},
		{"used, c occupied", api.State{Locked: 1, Used: 1}, asked(c, 1, 0), api.State{Locked: 1, Used: 1}, api.Output{}},
		{"used, clear", api.State{Locked: 1, Used: 1}, asked(a, 1, 0), api.State{}, api.Output{}},
		{"Cancel R, a occupied", locked, asked(a, 1, 0, cancel(0)), timer(19), api.Output{}},
		{"Cancel R", locked, asked(0, 1, 0, cancel(0)), api.State{}, api.Output{}},
		{"Cancel R, c occupied", locked, asked(c, 1, 0, cancel(0)), timer(0), api.Output{}},
		{"Cancel R, b occupied", locked, asked(b, 1, 0, cancel(0)), api.State{Locked: 1, Used: 1, Cancelled: 1}, api.Output{}},
		{"Cancel R, a and b occupied", locked, asked(a|b, 1, 0, cancel(0)), func() api.State { s := timer(20); s.Used = 1; return s }(), api.Output{}},
		{"Cancel of none", api.State{}, asked(a, 1, 0, cancel(0)), api.State{}, api.Output{}},
		{"Cancel twice", timer(5), asked(a, 1, 0, cancel(0)), timer(4), api.Output{}},
		{"Cancel of a used one", api.State{Locked: 1, Used: 1}, asked(b, 1, 0, cancel(0)), api.State{Locked: 1, Used: 1}, api.Output{}},
		{"timer 1", timer(1), asked(0, 1, 0), timer(0), api.Output{}},
		{"timer 0", timer(0), asked(a, 1, 0), api.State{}, api.Output{}},
		{"timer 0, c occupied", timer(0), asked(c, 1, 0), timer(0), api.Output{}},
		{"timer 5, c occupied", timer(5), asked(c, 1, 0), timer(4), api.Output{}},
		{"timer 5, b occupied", timer(5), asked(b, 1, 0), func() api.State { s := timer(5); s.Used = 1; return s }(), api.Output{}},
		{"used and cancelled, clear", func() api.State { s := timer(5); s.Used = 1; return s }(), asked(0, 1, 0), api.State{}, api.Output{}},
		{"Set and Cancel", api.State{}, asked(0, 1, 0, set(0), cancel(0)), api.State{}, api.Output{}},
		{"Cancel and Set", locked, asked(0, 1, 0, cancel(0), set(0)), api.State{}, api.Output{}},
		{"Set twice", api.State{}, asked(0, 1, 0, set(0), set(0)), locked, api.Output{Proceed: 1}},
		{"released and set in the next cycle", api.State{Locked: 1, Used: 1}, asked(0, 1, 0, set(0)), api.State{}, api.Output{}},
		{"Move P", api.State{}, asked(0, 0, 1, move(0)), api.State{Points: 1}, api.Output{Points: 1}},
		{"Move P back", api.State{Points: 1}, asked(a|c, 0, 1, move(0)), api.State{}, api.Output{}},
		{"Move P, b occupied", api.State{}, asked(b, 0, 1, move(0)), api.State{}, api.Output{}},
		{"Move P, R locked", locked, asked(0, 1, 0, move(0)), locked, api.Output{Proceed: 1}},
		{"Move twice", api.State{}, asked(0, 1, 0, move(0), move(0)), api.State{}, api.Output{}},
		{"Set R, P reverse", api.State{Points: 1}, asked(0, 1, 0, set(0)), locked, api.Output{Proceed: 1}},
		{"locked, P commanded otherwise", api.State{Locked: 1, Points: 1}, asked(0, 1, 0), api.State{Locked: 1, Points: 1}, api.Output{Proceed: 1, Points: 1}},
	} {
		s, out := m.Step(c.s, c.in)
		if s != c.want || out != c.out {
			t.Errorf("%s: %v %v", c.name, s, out)
		}
	}
}

func TestStation(t *testing.T) { // P10.3
	m := machine(t, station)
	for _, c := range []struct {
		name string
		s    api.State
		in   api.Input
		want api.State
		out  api.Output
	}{
		{"0 and 1: the first one", api.State{}, asked(0, 7, 0, set(0), set(1)), api.State{Locked: 1}, api.Output{Proceed: 1}},
		{"1 and 0: the first one", api.State{}, asked(0, 0, 1, set(1), set(0)), api.State{Locked: 2, Points: 1}, api.Output{Proceed: 2, Points: 1}},
		{"0 and 2", api.State{}, asked(0, 5, 2, set(0), set(2)), api.State{Locked: 5, Points: 2}, api.Output{Proceed: 5, Points: 2}},
		{"0 and 5, the flank alike", api.State{}, asked(0, 5, 0, set(0), set(5)), api.State{Locked: 33}, api.Output{Proceed: 33}},
		{"0 and 4, the flank unlike", api.State{}, asked(0, 5, 0, set(0), set(4)), api.State{Locked: 1}, api.Output{Proceed: 1}},
		{"0, the flank not detected", api.State{}, asked(0, 1, 0, set(0)), api.State{Locked: 1}, api.Output{}},
		{"0, the flank stuck", api.State{Points: 4}, asked(128, 5, 0, set(0)), api.State{Points: 4}, api.Output{Points: 4}},
		{"0, the flank moves", api.State{Points: 4}, asked(0, 5, 0, set(0)), api.State{Locked: 1}, api.Output{Proceed: 1}},
		{"0, a train over its flank", api.State{}, asked(128, 5, 0, set(0)), api.State{Locked: 1}, api.Output{Proceed: 1}},
		{"2, its overlap occupied", api.State{}, asked(8, 0, 2, set(2)), api.State{}, api.Output{}},
		{"Move of flank points", api.State{Locked: 1}, asked(0, 5, 0, move(2)), api.State{Locked: 1}, api.Output{Proceed: 1}},
		{"cancelled, then the other", api.State{Locked: 1}, asked(0, 5, 0, cancel(0), set(1)), api.State{}, api.Output{}},
	} {
		s, out := m.Step(c.s, c.in)
		if s != c.want || out != c.out {
			t.Errorf("%s: %v %v", c.name, s, out)
		}
	}
}

func TestInputsAreTaken(t *testing.T) { // P10.3
	m := machine(t, yard)
	s, out := m.Step(api.State{}, asked(^uint64(7), 1<<32-1, 1<<32-2, set(0)))
	if s != (api.State{Locked: 1}) || out != (api.Output{Proceed: 1}) {
		t.Error("bits that are not there count", s, out)
	}
	for _, x := range []api.Command{{}, {Kind: 4}, {Kind: 255}, set(-1), set(1), set(64), set(1 << 40), set(-1 << 63), cancel(-1), cancel(1), move(-1), move(1), move(32), move(1<<63 - 1)} {
		if s, out := m.Step(api.State{Locked: 1}, asked(0, 1, 0, x)); s != (api.State{Locked: 1}) || out != (api.Output{Proceed: 1}) {
			t.Error(x, s, out)
		}
	}
	row := []api.Command{{}, {}, {}, {}, {}, {}, {}, set(0), cancel(0)}
	if s, _ := m.Step(api.State{}, asked(0, 1, 0, row...)); s != (api.State{Locked: 1}) {
		t.Error("the eighth counts, the ninth doesn't", s)
	}
	wild := api.State{Locked: ^uint64(0), Used: ^uint64(1), Cancelled: ^uint64(1), Points: 1<<32 - 2}
	wild.Timers[0] = 7
	if s, out := m.Step(wild, asked(0, 1, 0)); s != (api.State{Locked: 1}) || out != (api.Output{Proceed: 1}) {
		t.Error("the state isn't tidied", s, out)
	}
}

func TestRight(t *testing.T) { // P10.4
	m := machine(t, station)
	for _, s := range []api.State{{}, {Points: 7}, {Locked: 1}, {Locked: 33}, {Locked: 2, Points: 5}, {Locked: 1, Used: 1}, timer(20), {Locked: 5, Points: 2}} {
		if !m.Right(s) {
			t.Error("not right:", s)
		}
	}
	for _, s := range []api.State{{Locked: 64}, {Used: 1}, {Cancelled: 1}, {Points: 8}, {Locked: 3}, {Locked: 17, Points: 4}, {Locked: 1, Points: 1}, {Locked: 1, Points: 4}, {Locked: 2}, {Locked: 1, Used: 2}, timer(21)} {
		if m.Right(s) {
			t.Error("right:", s)
		}
	}
	s := api.State{Locked: 1}
	s.Timers[0] = 1
	if m.Right(s) {
		t.Error("a timer of a route that isn't cancelled")
	}
	s.Timers[0], s.Timers[63] = 0, 1
	if m.Right(s) {
		t.Error("a timer of a route that isn't there")
	}
}

func TestMemory(t *testing.T) { // P10.5
	l := parse(t, yard)
	m, _ := New(l)
	l.Routes[0].Path[0], l.Routes[0].Points[0].Reverse, l.Points[0].Section, l.Signals[0].Section = 2, true, 2, 2
	in := asked(0, 1, 0, append(make([]api.Command, 0, 4), set(0), set(1))...)
	if s, out := m.Step(api.State{}, in); s != (api.State{Locked: 1}) || out != (api.Output{Proceed: 1}) {
		t.Error("the layout is kept", s, out)
	}
	if !reflect.DeepEqual(in, asked(0, 1, 0, set(0), set(1))) {
		t.Error("the input was changed")
	}
	l = parse(t, station)
	m, _ = New(l)
	m.Step(api.State{}, in)
	if !reflect.DeepEqual(l, parse(t, station)) {
		t.Error("the layout was changed")
	}
}

func anyInput(r *rand.Rand) api.Input {
	in := asked(r.Uint64()&r.Uint64()&r.Uint64()&255, r.Uint32(), r.Uint32()&r.Uint32())
	for range r.Intn(4) {
		in.Commands = append(in.Commands, api.Command{Kind: uint8(r.Intn(5)), N: r.Intn(8) - 1})
	}
	return in
}

func TestWhatFollows(t *testing.T) { // P10.6
	r := rand.New(rand.NewSource(1))
	l, m := parse(t, station), machine(t, station)
	if !m.Right(api.State{}) {
		t.Fatal("the state without routes")
	}
	s, shown := api.State{}, 0
	for range 20000 {
		in := anyInput(r)
		next, out := m.Step(s, in)
		if !m.Right(next) {
			t.Fatal("not right", s, in, next)
		}
		for n, route := range l.Routes {
			for _, d := range topo.Needs(route) {
				if next.Locked>>n&1 == 1 && (out.Points>>d.Point&1 == 1) != d.Reverse {
					t.Fatal("points commanded otherwise", s, in, out)
				}
				ok := in.Normal &^ in.Reverse
				if d.Reverse {
					ok = in.Reverse &^ in.Normal
				}
				if out.Proceed>>n&1 == 1 && ok>>d.Point&1 == 0 {
					t.Fatal("not detected", s, in, out)
				}
			}
			if out.Proceed>>n&1 == 0 {
				continue
			}
			shown++
			for _, x := range topo.Track(route) {
				if in.Occupied>>x&1 == 1 {
					t.Fatal("occupied", s, in, out)
				}
			}
			for i := range l.Routes {
				if out.Proceed>>i&1 == 1 && conflict.Pair(l, n, i) {
					t.Fatal("conflict", s, in, out)
				}
			}
		}
		s = next
	}
	if shown < 500 {
		t.Error("hardly anything was shown", shown)
	}
}
