package pair

import (
	"math/rand"
	"reflect"
	"testing"

	"semaphore/agree"
	"semaphore/api"
	"semaphore/disk"
	"semaphore/ilxa"
	"semaphore/inputs"
	"semaphore/layout"
	"semaphore/lockstore"
	"semaphore/vote"
)

const yard = `section a
section b
section c
section d
section e
point P b
signal G a
signal H d
route R G : b c : P+ : :
route S H : c : : : P-
route T H : e : : :`

func parse(t *testing.T) api.Layout {
	l, err, line := layout.Parse(yard)
	if err != api.OK {
		t.Fatal(err, line)
	}
	return l
}

func open(t *testing.T, d *disk.Disk) *Pair {
	t.Helper()
	p, err := Open(parse(t), d)
	if err != api.OK || !p.Stopped() {
		t.Fatal("opening:", err)
	}
	return p
}

// led is a pair over a new disk that leads in an epoch.
func led(t *testing.T, epoch int64) (*Pair, *disk.Disk) {
	t.Helper()
	d := disk.New(10)
	p := open(t, d)
	if err := p.Lead(epoch); err != api.OK {
		t.Fatal("Lead", err)
	}
	return p, d
}

func asked(c ...api.Command) api.Input { return api.Input{Normal: 1, Commands: c} }

var setR = asked(api.Command{Kind: api.Set, N: 0})

// begin begins a cycle, and lets each channel hear the other.
func begin(t *testing.T, p *Pair, cycle int64, a, b api.Input) {
	t.Helper()
	r, err := p.Begin(cycle, a, b)
	if err != api.OK || p.Hear(0, r[1]) != api.OK || p.Hear(1, r[0]) != api.OK {
		t.Fatal("Begin", cycle, err)
	}
}

func finish(t *testing.T, p *Pair, want api.Errno) {
	t.Helper()
	if err := p.Finish(); err != want {
		t.Error("Finish", err)
	}
}

// shows fails, unless the pair shows that and isn't stopped.
func shows(t *testing.T, p *Pair, f vote.Frame) {
	t.Helper()
	if got, ok := p.Shown(); !ok || got != f || p.Stopped() {
		t.Error("shown", got, ok)
	}
}

// dark fails, unless the pair is stopped, and shows nothing.
func dark(t *testing.T, p *Pair) {
	t.Helper()
	if got, ok := p.Shown(); ok || got != (vote.Frame{}) || !p.Stopped() {
		t.Error("shown", got, ok)
	}
}

func keeps(t *testing.T, p *Pair, s api.State, epoch, cycle int64) {
	t.Helper()
	if got, e, c, ok := p.Kept(); !ok || got != s || e != epoch || c != cycle {
		t.Error("kept", got.Locked, got.Points, e, c, ok)
	}
}

func TestOpen(t *testing.T) { // P22.1
	l := parse(t)
	l.Routes[0].Points = nil
	d := disk.New(2)
	if p, err := Open(l, d); err != api.ErrLayout || p != nil {
		t.Error("not well-formed", err)
	}
	if p, err := Open(api.Layout{Sections: []string{""}}, nil); err != api.ErrArg || p != nil {
		t.Error("may not be", err)
	}
	off, spoilt, wrong := disk.New(10), disk.New(10), disk.New(10)
	off.Crash()
	spoilt.Write(0, []byte("x"))
	s, _ := lockstore.Open(wrong)
	s.Save(api.State{Locked: 3}, 1, 1)
	for name, c := range map[string]struct {
		d    *disk.Disk
		want api.Errno
	}{"nil": {nil, api.ErrNil}, "small": {d, api.ErrArg}, "off": {off, api.ErrDisk}, "spoilt": {spoilt, api.ErrLog}, "a state that isn't right": {wrong, api.ErrLog}} {
		if p, err := Open(parse(t), c.d); err != c.want || p != nil {
			t.Error(name, err)
		}
	}
	p := open(t, disk.New(3))
	dark(t, p)
	if s, e, c, ok := p.Kept(); s != (api.State{}) || e != 0 || c != 0 || ok {
		t.Error("an empty store keeps something")
	}
}

func TestNil(t *testing.T) { // P22.1
	for _, p := range []*Pair{nil, {}} {
		r, err := p.Begin(-1, api.Input{}, api.Input{})
		if err != api.ErrNil || !reflect.DeepEqual(r, [2]agree.Reading{}) || p.Lead(-1) != api.ErrNil || p.Adopt(api.State{}, 1, 1) != api.ErrNil || p.Hear(9, nil) != api.ErrNil {
			t.Error("a nil one", err)
		}
		finish(t, p, api.ErrNil)
		p.Stop()
		p.Spoil(0, api.State{Locked: 1})
		dark(t, p)
		_, _, _, kept := p.Kept()
		in, merged := p.Merged()
		if kept || merged || !inputs.Same(in, api.Input{}) || p.State() != (api.State{}) {
			t.Error("a nil one tells something")
		}
	}
}

func TestExamples(t *testing.T) { // P22.2 to P22.6
	d := disk.New(10)
	p := open(t, d)
	if r, err := p.Begin(1, setR, setR); err != api.ErrStop || !reflect.DeepEqual(r, [2]agree.Reading{}) {
		t.Error("Begin ahead of Lead", err)
	}
	if p.Lead(1) != api.OK {
		t.Error("Lead")
	}
	begin(t, p, 1, setR, setR)
	finish(t, p, api.OK)
	locked := api.State{Locked: 1}
	shows(t, p, vote.Frame{Cycle: 1, Epoch: 1, Out: api.Output{Proceed: 1}})
	keeps(t, p, locked, 1, 1)
	if p.State() != locked {
		t.Error("the state")
	}
	p.Spoil(1, api.State{Points: 1})
	begin(t, p, 2, asked(), asked())
	finish(t, p, api.ErrStop)
	dark(t, p)
	keeps(t, p, locked, 1, 1)
	if p.Lead(1) != api.OK || p.State() != locked {
		t.Error("R isn't locked again")
	}
	p.Begin(2, asked(), asked())
	finish(t, p, api.ErrStop)
	dark(t, p)
	keeps(t, open(t, d), locked, 1, 1)
}

func TestLead(t *testing.T) { // P22.2
	p, d := led(t, 3)
	keeps(t, p, api.State{}, 3, 0)
	if _, shown := p.Shown(); shown || p.Stopped() {
		t.Error("behind Lead")
	}
	begin(t, p, 5, setR, setR)
	finish(t, p, api.OK)
	begin(t, p, 8, asked(), asked())
	finish(t, p, api.OK)
	keeps(t, p, api.State{Locked: 1}, 3, 5)
	if p.Lead(2) != api.ErrEpoch {
		t.Error("an earlier epoch")
	}
	dark(t, p)
	for _, epoch := range []int64{-1, api.MaxCycle + 1} {
		if p.Lead(epoch) != api.ErrArg {
			t.Error("no epoch", epoch)
		}
	}
	if p.Lead(4) != api.OK {
		t.Error("the next epoch")
	}
	keeps(t, p, api.State{Locked: 1}, 4, 8)
	if _, err := p.Begin(8, asked(), asked()); err != api.ErrArg {
		t.Error("a cycle that was shown", err)
	}
	finish(t, p, api.ErrState)
	begin(t, p, 9, asked(), asked())
	finish(t, p, api.OK)
	shows(t, p, vote.Frame{Cycle: 9, Epoch: 4, Out: api.Output{Proceed: 1}})
	p = open(t, d)
	if p.Lead(4) != api.OK {
		t.Error("the same epoch, opened again")
	}
	begin(t, p, 9, asked(), asked())
	d.Fail(0)
	if p.Lead(5) != api.ErrDisk {
		t.Error("the disk fails")
	}
	dark(t, p)
	keeps(t, p, api.State{Locked: 1}, 4, 8)
}

func TestLeadOfWhatIsNotRight(t *testing.T) { // P22.2
	p, _ := led(t, 1)
	for n := range 2 {
		p.Spoil(n, api.State{Locked: 3})
	}
	begin(t, p, 1, asked(), asked())
	finish(t, p, api.OK)
	keeps(t, p, api.State{Locked: 3}, 1, 1)
	if p.Lead(2) != api.ErrLog {
		t.Error("a state that isn't right")
	}
	dark(t, p)
}

func TestBegin(t *testing.T) { // P22.3
	p, _ := led(t, 1)
	wrong := api.Input{Occupied: 32}
	for _, cycle := range []int64{0, -1, -1 << 63, api.MaxCycle + 1, 1<<63 - 1} {
		if _, err := p.Begin(cycle, setR, setR); err != api.ErrArg {
			t.Error("no cycle", cycle, err)
		}
	}
	for _, in := range [][2]api.Input{{wrong, setR}, {setR, wrong}} {
		if r, err := p.Begin(1, in[0], in[1]); err != api.ErrArg || !reflect.DeepEqual(r, [2]agree.Reading{}) {
			t.Error("an input that isn't right", err)
		}
	}
	finish(t, p, api.ErrState)
	a, b := api.Input{Occupied: 1}, api.Input{Occupied: 2}
	r, err := p.Begin(1, a, b)
	if err != api.OK || !reflect.DeepEqual(r, [2]agree.Reading{{Channel: 0, Cycle: 1, In: a}, {Channel: 1, Cycle: 1, In: b}}) {
		t.Error(r, err)
	}
	if _, err := p.Begin(1, a, b); err != api.ErrArg {
		t.Error("the same cycle", err)
	}
	begin(t, p, 2, setR, setR) // the cycle 1 is forgotten
	finish(t, p, api.OK)
	finish(t, p, api.ErrState)
	begin(t, p, api.MaxCycle, setR, setR)
	finish(t, p, api.OK)
}

func TestHear(t *testing.T) { // P22.4
	p, _ := led(t, 1)
	r, _ := p.Begin(1, setR, setR)
	for _, n := range []int{-1, 2, 1 << 62} {
		if p.Hear(n, r[0]) != api.ErrArg {
			t.Error("no channel", n)
		}
	}
	if p.Hear(0, r[0]) != api.ErrArg || p.Hear(0, "x") != api.ErrArg || p.Hear(0, agree.Reading{Channel: 1}) != api.ErrLate || p.Hear(0, r[1]) != api.OK {
		t.Error("the channel's answer")
	}
	r[1].In.Normal = 0
	if p.Hear(0, r[1]) != api.ErrState {
		t.Error("an unlike one")
	}
	p.Stop()
	if p.Hear(7, r[1]) != api.ErrStop {
		t.Error("stopped")
	}
}

func TestFinish(t *testing.T) { // P22.5
	p, d := led(t, 1)
	steps := d.Steps()
	r, _ := p.Begin(1, setR, setR)
	p.Hear(0, r[1])
	finish(t, p, api.ErrStop) // channel 1 has not heard
	dark(t, p)
	finish(t, p, api.ErrStop)
	keeps(t, p, api.State{}, 1, 0)
	p.Lead(1)
	r, _ = p.Begin(1, setR, setR)
	p.Hear(0, r[1])
	r[0].In.Commands = nil
	p.Hear(1, r[0])
	finish(t, p, api.ErrStop) // unlike states
	dark(t, p)
	keeps(t, p, api.State{}, 1, 0)
	if d.Steps() != steps {
		t.Error("something was written")
	}
	p.Lead(1)
	begin(t, p, 1, setR, setR)
	finish(t, p, api.OK)
	r, _ = p.Begin(2, asked(), asked())
	p.Hear(0, r[1])
	r[0].In.Normal = 0
	p.Hear(1, r[0])
	finish(t, p, api.ErrStop) // unlike frames of the same state
	dark(t, p)
	keeps(t, p, api.State{Locked: 1}, 1, 1)
	p.Lead(1)
	begin(t, p, 2, asked(api.Command{Kind: api.Set, N: 2}), asked(api.Command{Kind: api.Set, N: 2}))
	d.Fail(0)
	finish(t, p, api.ErrStop) // the store fails
	dark(t, p)
	keeps(t, p, api.State{Locked: 1}, 1, 1)
}

func TestFullStore(t *testing.T) { // P22.5
	d := disk.New(3)
	p := open(t, d)
	p.Lead(1)
	begin(t, p, 1, asked(), asked())
	finish(t, p, api.OK)
	begin(t, p, 2, setR, setR)
	finish(t, p, api.ErrStop)
	dark(t, p)
	keeps(t, p, api.State{}, 1, 0)
}

func TestStopAndTells(t *testing.T) { // P22.6
	p, _ := led(t, 1)
	if _, ok := p.Merged(); ok {
		t.Error("merged at first")
	}
	begin(t, p, 1, api.Input{Occupied: 16, Normal: 1}, api.Input{Occupied: 8, Normal: 1})
	if in, ok := p.Merged(); !ok || !inputs.Same(in, api.Input{Occupied: 24, Normal: 1}) {
		t.Error(in, ok)
	}
	for _, n := range []int{-1, 2, 1 << 62} {
		p.Spoil(n, api.State{Locked: 1})
	}
	p.Spoil(0, api.State{Locked: 8})
	if p.State() != (api.State{Locked: 8}) {
		t.Error("channel 0's state")
	}
	p.Spoil(0, api.State{Locked: 8})
	finish(t, p, api.OK)
	p.Stop()
	dark(t, p)
	if p.Lead(1) != api.OK {
		t.Error("Lead behind a Stop")
	}
	if _, ok := p.Shown(); ok {
		t.Error("something is shown behind Lead")
	}
}

func TestAdopt(t *testing.T) { // P22.9
	p, d := led(t, 2)
	if p.Adopt(api.State{Locked: 1}, 3, 9) != api.ErrState {
		t.Error("it isn't stopped")
	}
	p.Stop()
	for _, s := range []api.State{{Locked: 3}, {Locked: 8}, {Locked: 1, Points: 1}, {Used: 1}} {
		if p.Adopt(s, 3, 9) != api.ErrLog {
			t.Error("not right", s)
		}
	}
	if p.Adopt(api.State{}, 1, 1) != api.ErrEpoch || p.Adopt(api.State{}, -1, 1) != api.ErrArg || p.Adopt(api.State{Locked: 4}, 3, 9) != api.OK {
		t.Error("the store's answer")
	}
	keeps(t, p, api.State{Locked: 4}, 3, 9)
	dark(t, p)
	if p.Lead(4) != api.OK || p.State() != (api.State{Locked: 4}) {
		t.Error("Lead behind it")
	}
	if _, err := p.Begin(9, asked(), asked()); err != api.ErrArg {
		t.Error("its cycle", err)
	}
	p.Stop()
	d.Fail(0)
	if p.Adopt(api.State{Locked: 1}, 5, 1) != api.ErrDisk {
		t.Error("the disk fails")
	}
}

func TestMemory(t *testing.T) { // P22.7
	l := parse(t)
	p, _ := Open(l, disk.New(10))
	l.Sections, l.Routes[0].Path[0] = l.Sections[:1], 4
	p.Lead(1)
	a := api.Input{Occupied: 16, Normal: 1, Commands: append(make([]api.Command, 0, 4), setR.Commands...)}
	r, err := p.Begin(1, a, a)
	if err != api.OK {
		t.Fatal("the layout is kept", err)
	}
	p.Hear(0, r[1])
	p.Hear(1, r[0])
	a.Commands[0].N, r[0].In.Commands[0].N, r[1].In.Commands[0].Kind = 1, 2, 9
	finish(t, p, api.OK)
	shows(t, p, vote.Frame{Cycle: 1, Epoch: 1, Out: api.Output{Proceed: 1}})
}

// TestWhatFollows moves a pair over a disk that fails, with spoilt channels and readings that are lost.
func TestWhatFollows(t *testing.T) { // P22.8
	r := rand.New(rand.NewSource(1))
	m, _ := ilxa.New(parse(t))
	shown := 0
	for range 250 {
		d := disk.New(4 + r.Intn(3))
		p := open(t, d)
		epoch, cycle, spoilt := int64(0), int64(0), -1
		for range 60 {
			switch {
			case d.Off():
				before, e, _, _ := p.Kept()
				d.On([]uint8{[]uint8{0, 255, uint8(r.Intn(256))}[r.Intn(3)]})
				p = open(t, d)
				if after, e2, _, _ := p.Kept(); e2 < e || before != after && !m.Right(after) {
					t.Fatal("kept", before, after)
				}
			case p.Stopped():
				epoch++
				if p.Lead(epoch) == api.OK {
					_, _, cycle, _ = p.Kept()
					spoilt = -1
				}
			case r.Intn(20) == 0:
				d.Fail(r.Intn(4))
			case r.Intn(20) == 0:
				if n := r.Intn(2); spoilt != 1-n {
					spoilt = n
					p.Spoil(n, api.State{Locked: uint64(r.Intn(8)), Used: uint64(r.Intn(2)), Points: uint32(r.Intn(2))})
				}
			default:
				cycle++
				var in [2]api.Input
				for n := range in {
					in[n] = api.Input{Occupied: r.Uint64() & r.Uint64() & r.Uint64() & 31, Normal: r.Uint32() & 1, Reverse: r.Uint32() & 1, Commands: []api.Command{{Kind: uint8(1 + r.Intn(2)), N: r.Intn(3)}}}
				}
				if r.Intn(4) > 0 {
					in[1].Commands = in[0].Commands
				}
				readings, err := p.Begin(cycle, in[0], in[1])
				if err != api.OK {
					t.Fatal("Begin", err)
				}
				for n := range 2 {
					if r.Intn(30) > 0 {
						p.Hear(n, readings[1-n])
					}
				}
				was, _, _, _ := p.Kept()
				if p.Finish() != api.OK {
					if after, _, _, _ := p.Kept(); !m.Right(after) {
						t.Fatal("kept", after)
					}
					continue
				}
				shown++
				s, out := m.Step(was, inputs.Merge(in[0], in[1]))
				f, ok := p.Shown()
				kept, e, _, _ := p.Kept()
				if !ok || f != (vote.Frame{Cycle: cycle, Epoch: epoch, Out: out}) || kept != s || e != epoch || out.Proceed&^kept.Locked != 0 {
					t.Fatal("shown", f, "kept", kept, "not", s, out)
				}
			}
		}
	}
	if shown < 3000 {
		t.Error("hardly anything was shown", shown)
	}
}
