// Package whole has tests alone: of the promises of the whole, of worlds that scripts move.
package whole

import (
	"math/rand"
	"testing"

	"semaphore/api"
	"semaphore/bound"
	"semaphore/layout"
	"semaphore/model"
	"semaphore/platform"
	"semaphore/safety"
)

// yard has a route R over b and c, S, which conflicts with it, and T, which does not.
const yard = `section a
section b
section c
section d
section e
point P b
signal G a
signal H d
route R G : b c : P+ : :
route S H : c : : : P-
route T H : e : : :`

// station has six routes from three signals, with overlaps and flanks.
const station = `section a
section b
section c
section d
section e
section f
section g
section h
point P b
point Q e
point T h
signal G a
signal H f
signal K g
route R0 G : b c : P+ : : T+
route R1 G : b d : P- : :
route R2 H : e : Q- : d :
route R3 H : e c : Q+ : :
route R4 K : h : T- : :
route R5 K : h : T+ : :`

func parse(t *testing.T, text string) api.Layout {
	l, err, line := layout.Parse(text)
	if err != api.OK {
		t.Fatal(err, line)
	}
	return l
}

func world(t *testing.T, l api.Layout, blocks int) *platform.World {
	t.Helper()
	w, err := platform.New(l, blocks)
	if err != api.OK {
		t.Fatal(err)
	}
	return w
}

func do(w *platform.World, kind uint8, a, n int) {
	w.Do(platform.Step{Kind: kind, A: a, N: n})
}

// cycle does a cycle of a unit, whose channels read these inputs.
func cycle(w *platform.World, unit int, a, b api.Input) {
	for n, in := range []api.Input{a, b} {
		w.Do(platform.Step{Kind: 0, A: unit, N: n, In: in})
	}
	w.Do(platform.Step{Kind: 1, A: unit, Picks: []int{0}})
	for range w.Readings(unit) {
		do(w, 2, unit, 0)
	}
	w.Do(platform.Step{Kind: 1, A: unit, Picks: []int{1, 2, 3}})
}

func anyInput(r *rand.Rand, l api.Layout) api.Input {
	all := uint64(1)<<len(l.Sections) - 1
	points := uint32(1)<<len(l.Points) - 1
	in := api.Input{Occupied: r.Uint64() & r.Uint64() & r.Uint64() & all, Normal: (r.Uint32() | r.Uint32()) & points}
	if r.Intn(2) == 0 {
		in.Occupied = 0
	}
	in.Reverse = points &^ in.Normal
	for range r.Intn(3) {
		in.Commands = append(in.Commands, api.Command{Kind: uint8(1 + r.Intn(2)), N: r.Intn(len(l.Routes))})
	}
	return in
}

// disturb does some steps together, or any one.
func disturb(r *rand.Rand, l api.Layout, w *platform.World) {
	unit := r.Intn(2)
	switch r.Intn(12) {
	case 0, 1, 2, 3:
		a := anyInput(r, l)
		b := a
		if r.Intn(4) == 0 {
			b = anyInput(r, l)
		}
		cycle(w, unit, a, b)
	case 4, 5:
		do(w, 6, 0, 0)
		do(w, 5, unit, 0)
		do(w, 5, 1-unit, 0)
	case 6:
		for range w.Way(unit) {
			do(w, 7, unit, r.Intn(2))
		}
	case 7:
		for range 1 + r.Intn(9) {
			do(w, 5, unit, 0)
		}
	case 8:
		do(w, 14, 0, 0)
	case 9:
		w.Do(platform.Step{Kind: 12, A: unit, Fates: []uint8{[]uint8{0, 255, uint8(r.Intn(256))}[r.Intn(3)]}})
	default:
		kind, n := uint8(r.Intn(17)), r.Int()
		if kind == 10 {
			n = r.Intn(6)
		}
		turned := api.State{Locked: r.Uint64() & r.Uint64() & 63, Used: r.Uint64() & r.Uint64() & 63, Points: r.Uint32() & 7}
		w.Do(platform.Step{Kind: kind, A: unit, N: n, In: anyInput(r, l), Picks: []int{r.Intn(4), r.Intn(4)}, Fates: []uint8{uint8(r.Intn(256))}, Spoil: turned})
	}
}

func TestAnyScripts(t *testing.T) { // P0.1 to P0.4
	r := rand.New(rand.NewSource(1))
	shown := 0
	for i := range 300 {
		l := parse(t, []string{yard, station}[i%2])
		w := world(t, l, 4+r.Intn(6))
		for range 150 {
			epoch, stopped := w.Epoch(), isStopped(w)
			disturb(r, l, w)
			out, stop := w.Shown()
			x, _ := w.Witness()
			if stop && out.Proceed != 0 || out.Proceed&^x.State.Locked != 0 || w.Epoch() < epoch {
				t.Fatal("shown", out, stop, stopped)
			}
		}
		var ins []api.Input
		var outs []model.Shown
		owners, last := map[int64]int{}, int64(0)
		for _, row := range w.Rows() {
			ins, outs = append(ins, row.In), append(outs, model.Shown{Stop: row.Stop, Out: row.Out})
			if row.Stop {
				continue
			}
			shown++
			if what := safety.Cycle(l, row.In, row.Out); what != safety.None {
				t.Fatal("wrong", what, row)
			}
			owner, known := owners[row.Epoch]
			if row.Epoch < last || known && owner != row.Unit {
				t.Fatal("the epoch", row)
			}
			owners[row.Epoch], last = row.Unit, row.Epoch
		}
		if states, err := model.Reach(l, ins, outs); err == api.OK && len(states) == 0 {
			t.Fatal("what was shown is not explained")
		}
	}
	if shown < 2000 {
		t.Error("hardly anything was shown", shown)
	}
}

func isStopped(w *platform.World) bool {
	_, stopped := w.Shown()
	return stopped
}

func TestItGoesOn(t *testing.T) { // P0.5
	r := rand.New(rand.NewSource(2))
	for i := range 150 {
		l := parse(t, []string{yard, station}[i%2])
		w := world(t, l, 4+r.Intn(6))
		for range r.Intn(200) {
			disturb(r, l, w)
		}
		c, err := bound.Begin(w, []int{r.Intn(2)})
		if err != api.OK {
			t.Fatal(err)
		}
		for round := range 2 * bound.K {
			before := len(w.Rows())
			in := anyInput(r, l)
			c.Round(in, in)
			if round+1 < bound.K {
				continue
			}
			rows := w.Rows()[before:]
			if isStopped(w) || len(rows) != 1 || rows[0].Stop || len(rows[0].In.Commands) != len(in.Commands) {
				t.Fatal("it does not go on", round, rows)
			}
		}
	}
}

// shows fails, unless the relay shows these routes proceed.
func shows(t *testing.T, w *platform.World, proceed uint64, stopped bool) {
	t.Helper()
	if out, stop := w.Shown(); out.Proceed != proceed || stop != stopped {
		t.Error("shown", out, stop)
	}
}

// locked fails, unless the unit keeps these routes locked.
func locked(t *testing.T, w *platform.World, unit int, routes uint64) {
	t.Helper()
	if x, _ := w.Kept(unit); x.State.Locked != routes {
		t.Error("locked", x.State.Locked)
	}
}

// led is a world of the yard whose unit 0 leads, R set.
func led(t *testing.T, in api.Input) *platform.World {
	w := world(t, parse(t, yard), 10)
	for range 5 {
		do(w, 5, 0, 0)
	}
	do(w, 14, 0, 0)
	in.Commands = []api.Command{{Kind: api.Set, N: 0}}
	cycle(w, 0, in, in)
	return w
}

func TestTenExamples(t *testing.T) { // the ten examples of the whole
	clear := api.Input{Normal: 1}
	same := func(w *platform.World, in api.Input) { cycle(w, 0, in, in) }
	w := led(t, clear)
	shows(t, w, 1, false) // 1
	cycle(w, 0, clear, api.Input{Normal: 1, Occupied: 4})
	shows(t, w, 0, false) // 2
	locked(t, w, 0, 1)
	w = led(t, api.Input{})
	shows(t, w, 0, false) // 3
	locked(t, w, 0, 1)
	same(w, clear)
	shows(t, w, 1, false)
	same(w, api.Input{Normal: 1, Occupied: 2}) // 4
	shows(t, w, 0, false)
	same(w, clear)
	locked(t, w, 0, 0)
	w = led(t, clear)
	same(w, api.Input{Normal: 1, Commands: []api.Command{{Kind: api.Set, N: 1}}}) // 5
	shows(t, w, 1, false)
	locked(t, w, 0, 1)
	same(w, api.Input{Normal: 1, Occupied: 1, Commands: []api.Command{{Kind: api.Cancel, N: 0}}}) // 6
	for range api.Approach - 1 {
		shows(t, w, 0, false)
		same(w, clear)
		locked(t, w, 0, 1)
	}
	same(w, clear)
	locked(t, w, 0, 0)
	w = led(t, clear)
	w.Do(platform.Step{Kind: 13, Spoil: api.State{Used: 1}}) // 7
	same(w, clear)
	shows(t, w, 0, true)
	do(w, 14, 0, 0)
	same(w, clear)
	shows(t, w, 1, false)
}

func TestCrashAndTakeover(t *testing.T) { // the ten examples of the whole: 8 to 10
	clear := api.Input{Normal: 1}
	w := led(t, clear)
	do(w, 10, 0, 1)
	setT := api.Input{Normal: 1, Commands: []api.Command{{Kind: api.Set, N: 2}}}
	cycle(w, 0, setT, setT) // 8
	shows(t, w, 0, true)
	do(w, 12, 0, 0)
	for range 5 {
		do(w, 5, 0, 0)
	}
	do(w, 14, 0, 0)
	locked(t, w, 0, 1)
	cycle(w, 0, clear, clear)
	shows(t, w, 1, false)
	for range 9 {
		do(w, 6, 0, 0)
	}
	for range 5 {
		do(w, 5, 1, 0)
	}
	epoch := w.Epoch()
	cycle(w, 1, clear, clear) // 9
	shows(t, w, 1, false)
	locked(t, w, 1, 1)
	do(w, 16, 0, 31)
	train := api.Input{Normal: 1, Occupied: 2}
	cycle(w, 0, setT, setT) // 10
	shows(t, w, 1, false)
	cycle(w, 1, train, train)
	shows(t, w, 0, false)
	if w.Epoch() != epoch || !w.Stopped(0) || w.Stopped(1) {
		t.Error("who leads", w.Epoch(), epoch)
	}
}
