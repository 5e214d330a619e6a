package channel

import (
	"math/rand"
	"reflect"
	"testing"

	"semaphore/agree"
	"semaphore/api"
	"semaphore/ilxa"
	"semaphore/ilxb"
	"semaphore/inputs"
	"semaphore/layout"
	"semaphore/vote"
)

const yard = `section a
section b
section c
section d
point P b
signal G a
signal H d
route R G : b c : P+ : :
route S H : c : : : P-`

func parse(t *testing.T) api.Layout {
	l, err, line := layout.Parse(yard)
	if err != api.OK {
		t.Fatal(err, line)
	}
	return l
}

// both are A and B.
func both(t *testing.T) [2]*Channel {
	a, err := New(0, parse(t))
	b, err2 := New(1, parse(t))
	if err != api.OK || err2 != api.OK {
		t.Fatal(err, err2)
	}
	return [2]*Channel{a, b}
}

var setR = api.Input{Normal: 1, Commands: []api.Command{{Kind: api.Set, N: 0}}}

// merge begins a cycle of both with an input, and lets each hear the other.
func merge(t *testing.T, c [2]*Channel, cycle int64, in api.Input) {
	t.Helper()
	a, err := c[0].Begin(cycle, in)
	b, err2 := c[1].Begin(cycle, in)
	if err != api.OK || err2 != api.OK || c[0].Hear(b) != api.OK || c[1].Hear(a) != api.OK {
		t.Fatal("begin", cycle, err, err2)
	}
}

// think fails, unless the channel thinks that.
func think(t *testing.T, c *Channel, s api.State, f vote.Frame) {
	t.Helper()
	if got, frame, err := c.Think(); err != api.OK || got != s || frame != f {
		t.Error("thinks", got, frame, err)
	}
}

// mum fails, unless the channel thinks nothing, and tells that error.
func mum(t *testing.T, c *Channel, want api.Errno) {
	t.Helper()
	if s, f, err := c.Think(); err != want || s != (api.State{}) || f != (vote.Frame{}) {
		t.Error("thinks", s, f, err)
	}
}

func take(t *testing.T, c *Channel, want api.Errno) {
	t.Helper()
	if err := c.Take(); err != want {
		t.Error("Take", err)
	}
}

func TestNew(t *testing.T) { // P21.1
	l := parse(t)
	l.Routes[0].Points = nil
	for _, which := range []int{-1, 2, 1 << 62} {
		if c, err := New(which, l); err != api.ErrArg || c != nil {
			t.Error(which, err)
		}
	}
	for which := range 2 {
		if c, err := New(which, l); err != api.ErrLayout || c != nil {
			t.Error("not well-formed", err)
		}
		if c, err := New(which, api.Layout{Sections: []string{""}}); err != api.ErrArg || c != nil {
			t.Error("may not be", err)
		}
	}
	c := both(t)
	if c[0].State() != (api.State{}) || c[1].State() != (api.State{}) {
		t.Error("the state at first")
	}
	_, a := c[0].lock.(*ilxa.Machine)
	_, b := c[1].lock.(*ilxb.Machine)
	if !a || !b {
		t.Error("A's is not ilxa's, or B's not ilxb's")
	}
	for _, x := range []*Channel{nil, {}} {
		r, err := x.Begin(1, api.Input{})
		if err != api.ErrNil || !reflect.DeepEqual(r, agree.Reading{}) || x.Restore(api.State{}, 0, 0) != api.ErrNil || x.Hear(nil) != api.ErrNil || x.Take() != api.ErrNil {
			t.Error("a nil one", err)
		}
		mum(t, x, api.ErrNil)
		x.Spoil(api.State{Locked: 1})
		if in, ok := x.Merged(); ok || !inputs.Same(in, api.Input{}) || x.State() != (api.State{}) {
			t.Error("a nil one has something")
		}
	}
}

func TestExamples(t *testing.T) { // P21.2 to P21.7
	c := both(t)
	for _, x := range c {
		if x.Restore(api.State{}, 1, 0) != api.OK {
			t.Error("Restore")
		}
		mum(t, x, api.ErrState)
	}
	merge(t, c, 1, setR)
	locked := api.State{Locked: 1}
	for _, x := range c {
		think(t, x, locked, vote.Frame{Cycle: 1, Epoch: 1, Out: api.Output{Proceed: 1}})
		if x.State() != (api.State{}) {
			t.Error("the state ahead of Take")
		}
		take(t, x, api.OK)
		mum(t, x, api.ErrState)
		take(t, x, api.ErrState)
		if x.State() != locked {
			t.Error("the state behind Take")
		}
	}
	c[1].Spoil(api.State{Locked: 1})
	merge(t, c, 2, api.Input{})
	think(t, c[0], locked, vote.Frame{Cycle: 2, Epoch: 1})
	think(t, c[1], api.State{}, vote.Frame{Cycle: 2, Epoch: 1})
}

func TestRestore(t *testing.T) { // P21.2
	for _, x := range both(t) {
		for _, s := range []api.State{{Locked: 4}, {Locked: 3}, {Locked: 1, Points: 1}, {Used: 1}, {Points: 2}} {
			if x.Restore(s, 1, 1) != api.ErrArg {
				t.Error("a state that isn't right", s)
			}
		}
		for _, n := range []int64{-1, api.MaxCycle + 1, -1 << 63, 1<<63 - 1} {
			if x.Restore(api.State{}, n, 0) != api.ErrArg || x.Restore(api.State{}, 0, n) != api.ErrArg {
				t.Error("a number that may not be", n)
			}
		}
		if x.State() != (api.State{}) || x.Restore(api.State{Locked: 2, Points: 1}, api.MaxCycle, 5) != api.OK || x.State() != (api.State{Locked: 2, Points: 1}) {
			t.Error("Restore")
		}
		for _, cycle := range []int64{5, 4, 0, -1} {
			if _, err := x.Begin(cycle, api.Input{}); err != api.ErrArg {
				t.Error("a cycle that isn't above", cycle, err)
			}
		}
		if r, err := x.Begin(6, api.Input{}); err != api.OK || r.Cycle != 6 {
			t.Error("the next cycle", err)
		}
		if x.Restore(api.State{}, 0, api.MaxCycle) != api.OK {
			t.Error("to the last one")
		}
		if x.Restore(api.State{}, 0, 2) != api.OK {
			t.Error("to an earlier one")
		}
		if r, err := x.Begin(3, api.Input{}); err != api.OK || r.Cycle != 3 {
			t.Error("a side anew", err)
		}
	}
	c := both(t)
	merge(t, c, 1, setR)
	c[0].Think()
	c[0].Restore(api.State{}, 0, 1)
	take(t, c[0], api.ErrState)
	mum(t, c[0], api.ErrState)
	if _, ok := c[0].Merged(); ok {
		t.Error("the side has merged yet")
	}
}

func TestBeginAndHear(t *testing.T) { // P21.3
	for which, x := range both(t) {
		for _, in := range []api.Input{{Occupied: 16}, {Normal: 2}, {Commands: make([]api.Command, 1)}, {Commands: make([]api.Command, 9)}} {
			if r, err := x.Begin(1, in); err != api.ErrArg || r.Cycle != 0 {
				t.Error("an input that isn't right", in, err)
			}
			if err := x.Hear(agree.Reading{Channel: 1 - which, Cycle: 1, In: in}); err != api.ErrArg {
				t.Error("a reading that isn't right", in, err)
			}
		}
		if _, err := x.Begin(api.MaxCycle+1, api.Input{}); err != api.ErrArg {
			t.Error("past MaxCycle", err)
		}
		r, err := x.Begin(4, setR)
		if err != api.OK || !reflect.DeepEqual(r, agree.Reading{Channel: which, Cycle: 4, In: setR}) {
			t.Error(r, err)
		}
		if _, err := x.Begin(4, setR); err != api.ErrArg {
			t.Error("the same cycle", err)
		}
		if x.Hear("x") != api.ErrArg || x.Hear(r) != api.ErrArg || x.Hear(&r) != api.ErrArg || x.Hear(agree.Reading{Channel: 1 - which, Cycle: 3}) != api.ErrLate {
			t.Error("wrong readings")
		}
		r.Channel = 1 - which
		if x.Hear(r) != api.OK {
			t.Error("the other's reading")
		}
		think(t, x, api.State{Locked: 1}, vote.Frame{Cycle: 4, Out: api.Output{Proceed: 1}})
		if _, err := x.Begin(4, setR); err != api.ErrArg {
			t.Error(err)
		}
		r.In.Occupied = 1
		if x.Hear(r) != api.ErrState {
			t.Error("an unlike reading")
		}
		mum(t, x, api.ErrState)
		if _, err := x.Begin(api.MaxCycle, setR); err != api.OK {
			t.Error("MaxCycle", err)
		}
		take(t, x, api.ErrState)
	}
}

func TestThinkAndTake(t *testing.T) { // P21.4, P21.5
	c := both(t)
	c[0].Restore(api.State{}, 7, 0)
	c[0].Begin(1, setR)
	mum(t, c[0], api.ErrState)
	take(t, c[0], api.ErrState)
	c[0].Hear(agree.Reading{Channel: 1, Cycle: 1, In: setR})
	f := vote.Frame{Cycle: 1, Epoch: 7, Out: api.Output{Proceed: 1}}
	think(t, c[0], api.State{Locked: 1}, f)
	think(t, c[0], api.State{Locked: 1}, f)
	c[0].Hear(agree.Reading{Channel: 1, Cycle: 1, In: api.Input{Occupied: 2}})
	mum(t, c[0], api.ErrState)
	take(t, c[0], api.OK)
	if c[0].State() != (api.State{Locked: 1}) {
		t.Error("what was thought ahead")
	}
	c[0].Begin(2, api.Input{Occupied: 2})
	mum(t, c[0], api.ErrState)
	c[0].Hear(agree.Reading{Channel: 1, Cycle: 2})
	think(t, c[0], api.State{Locked: 1, Used: 1}, vote.Frame{Cycle: 2, Epoch: 7})
	c[0].Begin(3, api.Input{})
	take(t, c[0], api.ErrState)
	if c[0].State() != (api.State{Locked: 1}) {
		t.Error("what was thought is forgotten")
	}
}

func TestMergedAndSpoil(t *testing.T) { // P21.6, P21.7
	c := both(t)
	if _, ok := c[0].Merged(); ok {
		t.Error("at first")
	}
	a, _ := c[0].Begin(1, api.Input{Occupied: 1, Normal: 1})
	c[1].Begin(1, api.Input{Occupied: 2, Normal: 1})
	c[1].Hear(a)
	if in, ok := c[1].Merged(); !ok || !inputs.Same(in, api.Input{Occupied: 3, Normal: 1}) {
		t.Error(in, ok)
	}
	x := api.State{Locked: 1, Used: 2, Cancelled: 4, Points: 8}
	x.Timers[0], x.Timers[63] = 16, 32
	for _, channel := range c {
		channel.Restore(api.State{Locked: 2, Points: 1}, 1, 1)
		channel.Spoil(x)
		want := api.State{Locked: 3, Used: 2, Cancelled: 4, Points: 9}
		want.Timers = x.Timers
		if channel.State() != want {
			t.Error(channel.State())
		}
		channel.Spoil(x)
		if channel.State() != (api.State{Locked: 2, Points: 1}) {
			t.Error("turned back", channel.State())
		}
	}
}

func TestMemory(t *testing.T) { // P21.8
	l := parse(t)
	c, _ := New(0, l)
	l.Sections, l.Routes[0].Path[0] = l.Sections[:1], 3
	in := api.Input{Occupied: 8, Normal: 1, Commands: append(make([]api.Command, 0, 4), setR.Commands...)}
	r, err := c.Begin(1, in)
	if err != api.OK {
		t.Fatal("the layout is kept", err)
	}
	in.Commands[0].N, r.In.Commands[0].N = 1, 1
	other := agree.Reading{Channel: 1, Cycle: 1, In: api.Input{Occupied: 8, Normal: 1, Commands: []api.Command{{Kind: api.Set}}}}
	c.Hear(other)
	other.In.Commands[0].N = 1
	think(t, c, api.State{Locked: 1}, vote.Frame{Cycle: 1, Out: api.Output{Proceed: 1}})
	m, _ := c.Merged()
	m.Commands[0].Kind = 9
	if again, _ := c.Merged(); again.Commands[0].Kind != api.Set {
		t.Error("answers are shared")
	}
}

func TestWhatFollows(t *testing.T) { // P21.9
	r := rand.New(rand.NewSource(1))
	m, _ := ilxa.New(parse(t))
	for range 100 {
		c := both(t)
		for cycle := range int64(60) {
			in := api.Input{Occupied: r.Uint64() & r.Uint64() & 15, Normal: r.Uint32() & 1, Reverse: r.Uint32() & 1}
			for range r.Intn(3) {
				in.Commands = append(in.Commands, api.Command{Kind: uint8(1 + r.Intn(2)), N: r.Intn(2)})
			}
			merge(t, c, cycle+1, in)
			if r.Intn(8) == 0 {
				continue
			}
			s, f, _ := c[0].Think()
			s2, f2, _ := c[1].Think()
			if s != s2 || f != f2 || !m.Right(s) {
				t.Fatal("unlike, or not right", s, s2, f, f2)
			}
			c[0].Take()
			c[1].Take()
		}
	}
}
