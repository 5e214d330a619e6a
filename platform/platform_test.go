package platform

import (
	"reflect"
	"testing"

	"semaphore/api"
	"semaphore/disk"
	"semaphore/frame"
	"semaphore/layout"
)

const yard = `section a
section b
section c
section d
section e
point P b
signal G a
signal H d
route R G : b c : P+ : :
route S H : c : : : P-
route T H : e : : :`

func parse(t testing.TB) api.Layout {
	l, err, line := layout.Parse(yard)
	if err != api.OK {
		t.Fatal(err, line)
	}
	return l
}

func world(t testing.TB, blocks int) *World {
	t.Helper()
	w, err := New(parse(t), blocks)
	if err != api.OK {
		t.Fatal(err)
	}
	return w
}

func do(w *World, kind uint8, a, n int) { w.Do(Step{Kind: kind, A: a, N: n}) }

func pick(w *World, a int, picks ...int) { w.Do(Step{Kind: 1, A: a, Picks: picks}) }

func ticks(w *World, a, n int) {
	for range n {
		do(w, 5, a, 0)
	}
}

// led is a world whose unit 0 leads in the epoch 1, and whose relay was reset.
func led(t testing.TB, blocks int) *World {
	t.Helper()
	w := world(t, blocks)
	ticks(w, 0, 5)
	do(w, 14, 0, 0)
	if !w.Active(0) || w.Active(1) || w.Stopped(0) || w.Epoch() != 1 {
		t.Fatal("unit 0 doesn't lead")
	}
	return w
}

func asked(c ...api.Command) api.Input { return api.Input{Normal: 1, Commands: c} }

var setR = asked(api.Command{Kind: api.Set, N: 0})

// read lets both channels of a unit read an input, and hear one another.
func read(w *World, a int, in api.Input) {
	for n := range 2 {
		w.Do(Step{Kind: 0, A: a, N: n, In: in})
	}
	pick(w, a, 0)
	for w.Readings(a) > 0 {
		do(w, 2, a, 0)
	}
}

// cycle does a cycle of a unit.
func cycle(w *World, a int, in api.Input) {
	read(w, a, in)
	pick(w, a, 1, 2, 3)
}

// shows fails, unless the relay shows that.
func shows(t *testing.T, w *World, proceed uint64, points uint32, stopped bool) {
	t.Helper()
	if out, stop := w.Shown(); out != (api.Output{Proceed: proceed, Points: points}) || stop != stopped {
		t.Error("shown", out, stop)
	}
}

// keeps fails, unless the unit keeps routes locked, of an epoch and a cycle.
func keeps(t *testing.T, w *World, unit int, locked uint64, epoch, cycle int64) {
	t.Helper()
	if x, ok := w.Kept(unit); !ok || x != (frame.Log{Epoch: epoch, Cycle: cycle, State: api.State{Locked: locked}}) {
		t.Error("unit", unit, "keeps", x.State.Locked, x.Epoch, x.Cycle, ok, "not", locked, epoch, cycle)
	}
}

func is(t *testing.T, w *World, unit int, active, stopped bool, phase int) {
	t.Helper()
	if !w.Up(unit) || w.Active(unit) != active || w.Stopped(unit) != stopped || w.Phase(unit) != phase {
		t.Error("unit", unit, "is", w.Up(unit), w.Active(unit), w.Stopped(unit), w.Phase(unit))
	}
}

// down fails, unless the unit is down.
func down(t *testing.T, w *World, unit int) {
	t.Helper()
	if _, ok := w.Kept(unit); ok || w.Up(unit) || w.Active(unit) || w.Stopped(unit) || w.Phase(unit) != 0 || w.Readings(unit) != 0 {
		t.Error("unit", unit, "isn't down")
	}
}

func rows(t *testing.T, w *World, want ...Row) {
	t.Helper()
	if got := w.Rows(); len(got) != len(want) || len(want) > 0 && !reflect.DeepEqual(got, want) {
		t.Error("rows", got, "not", want)
	}
}

func TestNew(t *testing.T) { // P27.1
	l := parse(t)
	for blocks, want := range map[int]api.Errno{2: api.ErrArg, 0: api.ErrArg, -1: api.ErrArg, 4097: api.ErrArg, 1 << 62: api.ErrArg, 3: api.OK, 4096: api.OK} {
		if w, err := New(l, blocks); err != want || (w == nil) != (want != api.OK) {
			t.Error(blocks, err)
		}
	}
	l.Routes[0].Points = nil
	if w, err := New(l, 1); err != api.ErrLayout || w != nil {
		t.Error("not well-formed", err)
	}
	if w, err := New(api.Layout{Sections: []string{""}}, 1); err != api.ErrArg || w != nil {
		t.Error("may not be", err)
	}
	w := world(t, 10)
	for unit := range 2 {
		is(t, w, unit, false, true, 0)
		if _, ok := w.Kept(unit); ok || w.Readings(unit) != 0 || w.Way(unit) != 0 {
			t.Error("a new unit has something")
		}
	}
	shows(t, w, 0, 0, true)
	rows(t, w)
	if _, ok := w.Witness(); ok || w.Steps() != 0 || w.Now() != 0 || w.Epoch() != 0 {
		t.Error("a new world")
	}
}

func TestExample(t *testing.T) { // P27.2
	w := led(t, 10)
	is(t, w, 0, true, false, 0)
	keeps(t, w, 0, 0, 1, 0)
	pick(w, 0, 0)
	if w.Readings(0) != 2 {
		t.Error("readings", w.Readings(0))
	}
	do(w, 2, 0, 0)
	do(w, 2, 0, 0)
	pick(w, 0, 1, 2, 3)
	is(t, w, 0, true, false, 0)
	rows(t, w, Row{Unit: 0, Epoch: 1, Cycle: 1})
	shows(t, w, 0, 0, false)
	if w.Steps() != 10 {
		t.Error("steps", w.Steps())
	}
}

func TestCycle(t *testing.T) { // P27.2: 0, 1, 2
	w := led(t, 10)
	cycle(w, 0, setR)
	shows(t, w, 1, 0, false)
	keeps(t, w, 0, 1, 1, 1)
	if x, ok := w.Witness(); !ok || x != (frame.Log{Epoch: 1, Cycle: 1, State: api.State{Locked: 1}}) {
		t.Error("the witness", x, ok)
	}
	w.Do(Step{Kind: 17, A: -2, N: -2, In: api.Input{Occupied: 1}})
	w.Do(Step{Kind: 34, A: 4, N: 7, In: api.Input{Normal: 1, Occupied: 8}})
	pick(w, 0, 1, 2, 3, 0, 0, 1, 9, -1)
	is(t, w, 0, true, false, 1)
	do(w, 2, 0, -1)
	pick(w, 0, 1)
	is(t, w, 0, true, false, 1)
	do(w, 2, 0, 5)
	pick(w, 0, 2, 3, 1)
	is(t, w, 0, true, false, 2)
	pick(w, 0, 2)
	is(t, w, 0, true, false, 3)
	one := Row{Epoch: 1, Cycle: 1, In: setR, Out: api.Output{Proceed: 1}}
	rows(t, w, one, Row{Epoch: 1, Cycle: 2, In: api.Input{Occupied: 9}, Stop: true})
	shows(t, w, 1, 0, false)
	pick(w, 0, 3)
	rows(t, w, one, Row{Epoch: 1, Cycle: 2, In: api.Input{Occupied: 9}})
	shows(t, w, 0, 0, false)
	keeps(t, w, 0, 1, 1, 1)
}

func TestInputThatIsNotRight(t *testing.T) { // P27.2: 1
	w := led(t, 10)
	w.Do(Step{Kind: 0, A: 0, N: 1, In: api.Input{Occupied: 1 << 40}})
	pick(w, 0, 0, 1, 2, 3)
	is(t, w, 0, true, false, 0)
	if w.Readings(0) != 0 {
		t.Error("readings of no cycle")
	}
	w.Do(Step{Kind: 0, A: 0, N: 1})
	pick(w, 0, 0)
	is(t, w, 0, true, false, 1)
}

func TestReadings(t *testing.T) { // P27.2: 2, 3, 4
	w := led(t, 10)
	do(w, 2, 0, 3)
	do(w, 3, 0, 3)
	do(w, 4, 0, 3)
	pick(w, 0, 0)
	for i := range 20 {
		do(w, 4, 0, i)
	}
	if w.Readings(0) != 16 {
		t.Error("more than may be", w.Readings(0))
	}
	do(w, 3, 0, -1)
	do(w, 3, 0, 1<<62)
	if w.Readings(0) != 14 {
		t.Error("lost", w.Readings(0))
	}
	for range 14 {
		do(w, 3, 0, 0)
	}
	pick(w, 0, 1)
	is(t, w, 0, true, false, 1)
	ticks(w, 0, 9)
	is(t, w, 0, true, true, 1)
	pick(w, 0, 1, 2, 3)
	do(w, 14, 0, 0)
	is(t, w, 0, true, false, 0)
	pick(w, 0, 0)
	do(w, 4, 0, 0)
	do(w, 2, 0, 0)
	do(w, 2, 0, 1)
	pick(w, 0, 1)
	is(t, w, 0, true, false, 1) // channel 1 heard twice, channel 0 did not
	do(w, 2, 0, 0)
	pick(w, 0, 1, 2, 3)
	is(t, w, 0, true, false, 0)
}

func TestReadingsThatDoNotFit(t *testing.T) { // P27.2: 1, 4
	w := led(t, 10)
	pick(w, 0, 0)
	for w.Readings(0) < 16 {
		do(w, 4, 0, w.Readings(0)%2)
	}
	do(w, 2, 0, 0)
	do(w, 2, 0, 0)
	pick(w, 0, 1, 2, 3)
	do(w, 4, 0, 0)
	pick(w, 0, 0)
	if w.Readings(0) != 16 {
		t.Error("more than may be", w.Readings(0))
	}
	for w.Readings(0) > 0 {
		do(w, 2, 0, 0)
	}
	pick(w, 0, 1)
	is(t, w, 0, true, false, 1) // the reading of channel 1 was lost
}

func TestLateReadings(t *testing.T) { // P27.2: 2
	w := led(t, 10)
	pick(w, 0, 0)
	do(w, 4, 0, 0)
	do(w, 4, 0, 1)
	do(w, 2, 0, 0)
	do(w, 2, 0, 0)
	pick(w, 0, 1, 2, 3, 0)
	do(w, 2, 0, 0)
	do(w, 2, 0, 0)
	pick(w, 0, 1)
	is(t, w, 0, true, false, 1) // those were of the cycle ahead
	do(w, 2, 0, 0)
	do(w, 2, 0, 0)
	pick(w, 0, 1, 2, 3)
	is(t, w, 0, true, false, 0)
}

func TestTickAndDeadline(t *testing.T) { // P27.2: 5
	w := world(t, 10)
	ticks(w, 0, 4)
	is(t, w, 0, false, true, 0)
	ticks(w, 0, 1)
	is(t, w, 0, true, false, 0)
	if w.Way(1) != 1 || w.Way(0) != 0 {
		t.Error("a beat", w.Way(1))
	}
	shows(t, w, 0, 0, true)
	do(w, 14, 0, 0)
	is(t, w, 0, true, false, 0)
	if w.Epoch() != 1 {
		t.Error("asked again", w.Epoch())
	}
	cycle(w, 0, setR)
	ticks(w, 0, 8)
	shows(t, w, 1, 0, false)
	ticks(w, 0, 1)
	shows(t, w, 0, 0, true)
	is(t, w, 0, true, true, 0)
	do(w, 14, 0, 0)
	is(t, w, 0, true, false, 0)
	shows(t, w, 0, 0, false)
	keeps(t, w, 0, 1, 2, 1)
	cycle(w, 0, asked())
	shows(t, w, 1, 0, false)
	rows(t, w, Row{Epoch: 1, Cycle: 1, In: setR, Out: api.Output{Proceed: 1}}, Row{Epoch: 2, Cycle: 2, In: asked(), Out: api.Output{Proceed: 1}})
}

func TestPatience(t *testing.T) { // P27.2: 6
	w := led(t, 10)
	cycle(w, 0, setR)
	for i := range Patience {
		do(w, 6, i, i)
	}
	shows(t, w, 1, 0, false)
	do(w, 6, 0, 0)
	shows(t, w, 0, 0, true)
	if w.Now() != Patience+1 {
		t.Error("now", w.Now())
	}
}

func TestMessages(t *testing.T) { // P27.2: 7, 8, 9; what is heard of the other unit
	w := led(t, 10)
	for w.Way(1) > 0 {
		do(w, 8, 1, 0)
	}
	do(w, 7, 1, 0)
	do(w, 8, 1, 0)
	do(w, 9, 1, 0)
	cycle(w, 0, setR) // R, whole
	if w.Way(1) != 1 {
		t.Error("a record", w.Way(1))
	}
	do(w, 9, 1, -3)
	if w.Way(1) != 2 {
		t.Error("doubled", w.Way(1))
	}
	do(w, 7, 1, 4)
	keeps(t, w, 1, 1, 1, 1)
	is(t, w, 1, false, true, 0)
	if w.Way(1) != 1 || w.Way(0) != 1 {
		t.Error("an ack", w.Way(1), w.Way(0))
	}
	do(w, 7, 1, 0)
	if w.Way(1) != 0 || w.Way(0) != 1 {
		t.Error("the same once more", w.Way(0))
	}
	do(w, 7, 0, 0)
	ticks(w, 0, 1) // a beat: there is no record to send
	if w.Way(1) != 1 {
		t.Error("only a beat", w.Way(1))
	}
	ticks(w, 1, 4)
	do(w, 7, 1, 0)
	ticks(w, 1, 4)
	is(t, w, 1, false, true, 0)
	cycle(w, 0, asked(api.Command{Kind: api.Set, N: 2})) // a part
	do(w, 7, 1, 0)
	keeps(t, w, 1, 5, 1, 2)
	for range 70 {
		ticks(w, 0, 1)
	}
	if w.Way(1) != 64 {
		t.Error("more than may be", w.Way(1))
	}
	do(w, 11, 1, 0)
	for i := range 64 {
		do(w, 7, 1, i)
	}
	if w.Way(1) != 0 || w.Way(0) != 1 {
		t.Error("they are lost", w.Way(1), w.Way(0))
	}
}

func TestWant(t *testing.T) { // what is heard of the other unit
	w := led(t, 10)
	cycle(w, 0, setR)
	for w.Way(1) > 0 {
		do(w, 7, 1, 0)
	}
	do(w, 7, 0, 0)
	cycle(w, 0, asked(api.Command{Kind: api.Set, N: 2})) // a part, over what unit 1 has
	do(w, 8, 1, 0)
	do(w, 11, 1, 0)
	do(w, 12, 1, 0)
	keeps(t, w, 1, 1, 1, 1)
	cycle(w, 0, asked())
	do(w, 7, 1, 0)
	keeps(t, w, 1, 5, 1, 3) // its receiver began with what it keeps
	w = led(t, 10)
	cycle(w, 0, setR)
	for w.Way(1) > 0 {
		do(w, 7, 1, 0)
	}
	do(w, 7, 0, 0)
	do(w, 11, 1, 0)
	w.units[1].disk = disk.New(10)
	do(w, 12, 1, 0)
	cycle(w, 0, asked(api.Command{Kind: api.Set, N: 2}))
	do(w, 7, 1, 0) // a part over what it has not: want
	if _, ok := w.Kept(1); ok || w.Way(0) != 1 {
		t.Error("it keeps something")
	}
	do(w, 7, 0, 0)
	ticks(w, 0, 1) // whole
	do(w, 7, 1, 1)
	keeps(t, w, 1, 5, 1, 2)
}

func TestDisk(t *testing.T) { // P27.2: 10, 11, 12
	w := led(t, 10)
	cycle(w, 0, setR)
	do(w, 10, 0, 0)
	cycle(w, 0, asked(api.Command{Kind: api.Set, N: 2}))
	down(t, w, 0)
	shows(t, w, 0, 0, true)
	do(w, 12, 1, 0)
	w.Do(Step{Kind: 12, A: 0, Fates: []uint8{255}})
	keeps(t, w, 0, 5, 1, 2)
	is(t, w, 0, false, true, 0)
	w.Do(Step{Kind: 12, A: 0, Fates: []uint8{0}})
	keeps(t, w, 0, 5, 1, 2)
	do(w, 11, 2, 0)
	down(t, w, 0)
	do(w, 10, 0, 0)
	for kind := range uint8(17) {
		if kind != 12 {
			do(w, kind, 0, 0)
		}
	}
	down(t, w, 0)
	do(w, 12, 0, 0)
	keeps(t, w, 0, 5, 1, 2)
	do(w, 10, 0, 1)
	do(w, 10, 0, -1)
	do(w, 14, 0, 0)
	ticks(w, 0, 5)
	is(t, w, 0, true, false, 0)
	keeps(t, w, 0, 5, 2, 2)
}

func TestSpoil(t *testing.T) { // P27.2: 13
	w := led(t, 10)
	spoil := func(n int, x api.State) { w.Do(Step{Kind: 13, A: 0, N: n, Spoil: x}) }
	spoil(3, api.State{Locked: 4})
	spoil(2, api.State{Locked: 4}) // not done: the other one was
	cycle(w, 0, asked())
	shows(t, w, 0, 0, true)
	is(t, w, 0, true, true, 2)
	rows(t, w, Row{Epoch: 1, Cycle: 1, In: asked(), Stop: true})
	keeps(t, w, 0, 0, 1, 0)
	do(w, 14, 0, 0)
	is(t, w, 0, true, false, 0)
	spoil(0, api.State{Locked: 4}) // since it led last, none was
	spoil(-1, api.State{Locked: 4})
	cycle(w, 0, asked())
	is(t, w, 0, true, true, 2)
	do(w, 14, 0, 0)
	spoil(0, api.State{Locked: 4})
	spoil(0, api.State{Locked: 4}) // turned back
	cycle(w, 0, setR)
	shows(t, w, 1, 0, false)
	do(w, 11, 0, 0)
	spoil(1, api.State{Locked: 4})
	do(w, 12, 0, 0)
	ticks(w, 0, 5)
	do(w, 14, 0, 0)
	cycle(w, 0, asked())
	shows(t, w, 1, 0, false)
}

func TestLeadingAnew(t *testing.T) { // to ask the book
	w := led(t, 10)
	read(w, 0, setR)
	pick(w, 0, 1, 2, 3, 0)
	if w.Readings(0) != 2 {
		t.Error("readings", w.Readings(0))
	}
	ticks(w, 0, 9)
	is(t, w, 0, true, true, 1)
	do(w, 14, 0, 0)
	if w.Readings(0) != 0 {
		t.Error("readings are on their way yet", w.Readings(0))
	}
	is(t, w, 0, true, false, 0)
	keeps(t, w, 0, 1, 2, 1)
	cycle(w, 0, asked())
	shows(t, w, 1, 0, false)
}

// TestTwoThatLead lets unit 0 think that it leads in the epoch 1, while unit 1 does in the epoch 2.
func TestTwoThatLead(t *testing.T) { // what is heard of the other unit
	w := led(t, 10)
	do(w, 16, 0, 31)
	for range 9 {
		do(w, 6, 0, 0)
	}
	ticks(w, 0, 1)
	for range 5 {
		do(w, 5, 1, 0)
	}
	is(t, w, 0, true, false, 0)
	is(t, w, 1, true, false, 0)
	do(w, 7, 1, 0) // a beat of the epoch 1
	is(t, w, 1, true, false, 0)
	cycle(w, 1, setR)
	for range 2 { // a beat of the epoch 2, and a record
		do(w, 9, 0, 0)
		do(w, 9, 0, 1)
	}
	do(w, 7, 0, 0)
	is(t, w, 0, false, true, 0)
	keeps(t, w, 0, 0, 1, 0)
	do(w, 7, 0, 0)
	keeps(t, w, 0, 1, 2, 1)
}

func TestRecordToOneThatLeads(t *testing.T) { // what is heard of the other unit
	w := led(t, 10)
	do(w, 16, 0, 31)
	for range 9 {
		do(w, 6, 0, 0)
	}
	for range 5 {
		do(w, 5, 1, 0)
	}
	cycle(w, 1, setR)
	ticks(w, 0, 9) // late: it is stopped, and thinks that it leads
	is(t, w, 0, true, true, 0)
	way := w.Way(1)
	do(w, 7, 0, 1) // the record
	keeps(t, w, 0, 0, 1, 0)
	if w.Way(1) != way {
		t.Error("it answered", w.Way(1), way)
	}
}

func TestReset(t *testing.T) { // P27.2: 14
	w := led(t, 10)
	cycle(w, 0, setR)
	do(w, 14, 0, 0) // nothing is stopped
	shows(t, w, 1, 0, false)
	if w.Epoch() != 1 {
		t.Error("a new epoch", w.Epoch())
	}
	do(w, 15, 0, 1)
	ticks(w, 0, 9) // late: it stops, and can't tell the relay
	is(t, w, 0, true, true, 0)
	shows(t, w, 1, 0, false)
	do(w, 14, 0, 0)
	is(t, w, 0, true, true, 0)
	do(w, 15, 0, -2)
	do(w, 14, 0, 0)
	is(t, w, 0, true, false, 0)
	if w.Epoch() != 2 {
		t.Error("no new epoch", w.Epoch())
	}
}

func TestCut(t *testing.T) { // P27.2: 15
	w := world(t, 10)
	do(w, 15, 0, -1)
	ticks(w, 0, 5)
	is(t, w, 0, false, true, 0)
	do(w, 15, 0, 2)
	ticks(w, 0, 5)
	is(t, w, 0, true, false, 0)
	do(w, 14, 0, 0)
	do(w, 15, 0, 1)
	cycle(w, 0, setR)
	shows(t, w, 0, 0, false)
	rows(t, w, Row{Epoch: 1, Cycle: 1, In: setR, Stop: true})
	for range 7 {
		do(w, 6, 0, 0)
	}
	ticks(w, 0, 1) // the lease has gone by
	is(t, w, 0, false, true, 0)
}

func TestClocks(t *testing.T) { // P27.2: 16
	w := led(t, 10)
	for range 7 {
		do(w, 6, 0, 0)
	}
	do(w, 16, 0, 33)
	cycle(w, 0, setR) // by its clock it is 6
	shows(t, w, 1, 0, false)
	do(w, 16, 0, 32)
	cycle(w, 0, asked()) // it is 7: the lease until 8 does not hold
	is(t, w, 0, true, true, 0)
	rows(t, w, Row{Epoch: 1, Cycle: 1, In: setR, Out: api.Output{Proceed: 1}}, Row{Epoch: 1, Cycle: 2, In: asked(), Stop: true})
	shows(t, w, 1, 0, false)
	do(w, 16, 0, -1) // 31 behind: at least 0
	ticks(w, 0, 1)
	is(t, w, 0, true, true, 0)
	do(w, 16, 0, 0)
	ticks(w, 0, 1)
	is(t, w, 0, false, true, 0)
}

func TestRenew(t *testing.T) { // P27.2: 5
	w := led(t, 10)
	for range 30 {
		do(w, 6, 0, 0)
		ticks(w, 0, 1)
		ticks(w, 1, 1)
		for w.Way(1) > 0 {
			do(w, 7, 1, 0)
		}
		for w.Way(0) > 0 {
			do(w, 7, 0, 0)
		}
		cycle(w, 0, setR)
		shows(t, w, 1, 0, false)
	}
	if w.Epoch() != 1 {
		t.Error("a new epoch", w.Epoch())
	}
}

func TestTakeover(t *testing.T) { // P27.2; examples 9 and 10 of the whole
	w := led(t, 10)
	cycle(w, 0, setR)
	read(w, 0, asked(api.Command{Kind: api.Set, N: 2}))
	pick(w, 0, 1, 2) // kept, and not shown yet
	for range 9 {
		do(w, 6, 0, 0)
	}
	ticks(w, 1, 5)
	is(t, w, 1, true, false, 0)
	keeps(t, w, 1, 1, 2, 1) // nothing was replicated: the witness was adopted
	if w.Epoch() != 2 {
		t.Error("the epoch", w.Epoch())
	}
	do(w, 16, 0, 20) // unit 0 thinks that it holds
	pick(w, 0, 3)
	is(t, w, 0, true, true, 0)
	shows(t, w, 1, 0, false)
	cycle(w, 1, asked())
	shows(t, w, 1, 0, false)
	rows(t, w, Row{Epoch: 1, Cycle: 1, In: setR, Out: api.Output{Proceed: 1}}, Row{Epoch: 1, Cycle: 2, In: asked(api.Command{Kind: api.Set, N: 2}), Stop: true}, Row{Unit: 1, Epoch: 2, Cycle: 2, In: asked(), Out: api.Output{Proceed: 1}})
	do(w, 7, 0, 0) // a beat of a greater epoch
	is(t, w, 0, false, true, 0)
	keeps(t, w, 0, 5, 1, 2)
	for w.Way(0) > 0 {
		do(w, 7, 0, 0)
	}
	keeps(t, w, 0, 1, 2, 2)
}

func TestShowAllStopOfAnEpochThatIsPast(t *testing.T) { // P27.2: 5
	w := led(t, 10)
	for range 9 {
		do(w, 6, 0, 0)
	}
	ticks(w, 1, 5)
	do(w, 14, 0, 0)
	cycle(w, 1, setR)
	do(w, 16, 0, 20)
	ticks(w, 0, 9) // late, in the epoch 1
	is(t, w, 0, true, true, 0)
	shows(t, w, 1, 0, false)
}

func TestRefused(t *testing.T) { // P27.2: 5, 14
	w := led(t, 10)
	for range 9 {
		do(w, 6, 0, 0)
	}
	do(w, 16, 0, 20)
	ticks(w, 1, 5)
	is(t, w, 1, true, false, 0)
	is(t, w, 0, true, false, 0)
	for range 5 {
		do(w, 6, 0, 0)
	}
	do(w, 16, 0, 8)
	ticks(w, 0, 1) // by its clock it renews: refused
	is(t, w, 0, false, true, 0)
}

func TestFullStore(t *testing.T) { // P27.2: 1
	w := led(t, 3)
	cycle(w, 0, asked())
	shows(t, w, 0, 0, false)
	cycle(w, 0, setR)
	shows(t, w, 0, 0, true)
	is(t, w, 0, true, true, 2)
	do(w, 14, 0, 0) // the next epoch can't be kept: it steps aside
	is(t, w, 0, true, true, 2)
	shows(t, w, 0, 0, false)
	if w.Epoch() != 2 {
		t.Error("the fence", w.Epoch())
	}
	keeps(t, w, 0, 0, 1, 0)
}

func TestNil(t *testing.T) { // P27.3
	for _, w := range []*World{nil, {}} {
		do(w, 5, 0, 0)
		shows(t, w, 0, 0, true)
		_, seen := w.Witness()
		if w.Steps() != 0 || len(w.Rows()) != 0 || w.Epoch() != 0 || w.Now() != 0 || w.Way(0) != 0 || seen {
			t.Error("a nil one")
		}
		down(t, w, 0)
	}
	w := led(t, 10)
	for _, unit := range []int{-1, 2, 1 << 62, -1 << 63} {
		down(t, w, unit)
		if w.Way(unit) != 0 {
			t.Error("no unit has a wire")
		}
	}
}

func TestMemory(t *testing.T) { // P27.4
	l := parse(t)
	w, _ := New(l, 10)
	l.Sections, l.Routes[0].Path[0] = l.Sections[:1], 4
	ticks(w, 0, 5)
	do(w, 14, 0, 0)
	in := asked(append(make([]api.Command, 0, 4), setR.Commands...)...)
	picks, fates := append(make([]int, 0, 4), 1, 2, 3), append(make([]uint8, 0, 4), 1)
	for n := range 2 {
		w.Do(Step{Kind: 0, N: n, In: in})
	}
	in.Commands[0].N = 1
	pick(w, 0, 0)
	do(w, 2, 0, 0)
	do(w, 2, 0, 0)
	w.Do(Step{Kind: 1, Picks: picks, Fates: fates})
	shows(t, w, 1, 0, false)
	got := w.Rows()
	got[0].In.Commands[0].N = 7
	got[0].Stop = true
	rows(t, w, Row{Epoch: 1, Cycle: 1, In: setR, Out: api.Output{Proceed: 1}})
	do(w, 11, 0, 0)
	do(w, 12, 0, 0)
	keeps(t, w, 0, 1, 1, 1)
}
