package platform

import (
	"math/rand"
	"reflect"
	"testing"

	"semaphore/api"
	"semaphore/ilxa"
)

func anyInput(r *rand.Rand) api.Input {
	in := api.Input{Occupied: r.Uint64() & r.Uint64() & r.Uint64() & 31, Normal: r.Uint32() & 1, Reverse: r.Uint32() & 1}
	if r.Intn(2) == 0 {
		in.Occupied = 0
	}
	for range r.Intn(3) {
		in.Commands = append(in.Commands, api.Command{Kind: uint8(1 + r.Intn(2)), N: r.Intn(3)})
	}
	if r.Intn(40) == 0 {
		in.Occupied = 1 << 50
	}
	return in
}

// anySpoil is what turns a few bits of a state.
func anySpoil(r *rand.Rand) api.State {
	s := api.State{Locked: uint64(r.Intn(8)), Used: uint64(r.Intn(8)), Points: uint32(r.Intn(2))}
	s.Timers[r.Intn(3)] = uint8(r.Intn(3))
	return s
}

// someSteps are steps that do something together, or any one.
func someSteps(r *rand.Rand, w *World) []Step {
	a := r.Intn(2)
	step := func(kind uint8, n int) Step { return Step{Kind: kind, A: a, N: n} }
	var all []Step
	switch r.Intn(14) {
	case 0, 1, 2, 3:
		in, other := anyInput(r), anyInput(r)
		if r.Intn(4) > 0 {
			other = in
		}
		all = append(all, Step{Kind: 0, A: a, In: in}, Step{Kind: 0, A: a, N: 1, In: other}, Step{Kind: 1, A: a, Picks: []int{0}})
		for range 2 + w.Readings(a) {
			all = append(all, step(2, r.Int()))
		}
		all = append(all, Step{Kind: 1, A: a, Picks: []int{1, 2}})
		if r.Intn(6) > 0 {
			all = append(all, Step{Kind: 1, A: a, Picks: []int{3}})
		}
	case 4, 5:
		all = append(all, step(6, 0), step(5, 0), Step{Kind: 5, A: 1 - a})
	case 6:
		for range w.Way(a) {
			all = append(all, step(7, r.Intn(2)))
		}
	case 7:
		for range 6 {
			all = append(all, step(5, 0))
		}
	case 8:
		if r.Intn(2) == 0 {
			all = append(all, step(14, 0))
		}
	case 9:
		all = append(all, Step{Kind: 12, A: a, Fates: []uint8{[]uint8{0, 255, uint8(r.Intn(256))}[r.Intn(3)]}})
	default:
		kind := uint8(r.Intn(17))
		if kind == 11 && r.Intn(3) > 0 || kind == 10 && r.Intn(2) > 0 {
			kind = 6
		}
		n := r.Int() - r.Int()
		if kind == 10 {
			n = r.Intn(6)
		}
		all = append(all, Step{Kind: kind, A: a, N: n, In: anyInput(r), Picks: []int{r.Intn(5), r.Intn(4)}, Fates: []uint8{uint8(r.Intn(256))}, Spoil: anySpoil(r)})
	}
	return all
}

// explained: is there a choice of the rows' inputs that explains what was shown?
func explained(m *ilxa.Machine, rows []Row) bool {
	states := map[api.State]int{{}: 1}
	for _, row := range rows {
		next := map[api.State]int{}
		for s := range states {
			t, out := m.Step(s, row.In)
			if row.Stop {
				next[s], next[t] = 1, 1
			} else if out == row.Out {
				next[t] = 1
			}
		}
		states = next
	}
	return len(states) > 0
}

// stepChecked does a step, and fails where something is shown that may not be.
func stepChecked(t *testing.T, w *World, s Step) {
	epoch := w.Epoch()
	_, stopped := w.Shown()
	w.Do(s)
	out, stop := w.Shown()
	x, _ := w.Witness()
	if stopped && !stop && s.Kind%17 != 14 || stop && out.Proceed != 0 || out.Proceed&^x.State.Locked != 0 {
		t.Fatal("shown", out, stop, "behind a step of the kind", s.Kind%17)
	}
	if w.Epoch() < epoch {
		t.Fatal("the epoch fell")
	}
}

func TestWhatFollows(t *testing.T) { // P27.5
	r := rand.New(rand.NewSource(1))
	m, _ := ilxa.New(parse(t))
	shown, takeovers := 0, 0
	for i := range 400 {
		w := world(t, 4+r.Intn(4))
		var script []Step
		for w.Steps() < 500 {
			for _, s := range someSteps(r, w) {
				script = append(script, s)
				stepChecked(t, w, s)
			}
		}
		rows := w.Rows()
		if !explained(m, rows) {
			t.Fatal("what was shown is not explained", i)
		}
		last, owners := int64(0), map[int64]int{}
		for _, row := range rows {
			if row.Stop {
				continue
			}
			shown++
			if owner, ok := owners[row.Epoch]; row.Epoch < last || ok && owner != row.Unit {
				t.Fatal("epochs", rows)
			}
			owners[row.Epoch] = row.Unit
			last = row.Epoch
		}
		takeovers += len(owners)
		again := world(t, w.units[0].blocks())
		for _, s := range script {
			again.Do(s)
		}
		if !reflect.DeepEqual(again.Rows(), rows) || again.Epoch() != w.Epoch() || again.Now() != w.Now() {
			t.Fatal("the same steps make another world")
		}
	}
	t.Log(shown, "rows shown in", takeovers, "epochs")
	if shown < 2000 || takeovers < 500 {
		t.Error("hardly anything was shown", shown, takeovers)
	}
}

// blocks tells how many blocks the unit's disk has.
func (u *unit) blocks() int { return u.disk.Blocks() }

// TestHugeSteps does steps with numbers of all sizes.
func TestHugeSteps(t *testing.T) { // P27.2
	r := rand.New(rand.NewSource(2))
	w := world(t, 5)
	numbers := []int{0, 1, -1, 2, 1 << 62, -1 << 62, 1<<63 - 1, -1 << 63}
	for range 3000 {
		n := func() int { return numbers[r.Intn(len(numbers))] }
		w.Do(Step{Kind: uint8(r.Intn(256)), A: n(), N: n(), In: anyInput(r), Picks: []int{n(), r.Intn(4)}, Fates: make([]uint8, r.Intn(3)), Spoil: anySpoil(r)})
	}
	if w.Steps() != 3000 {
		t.Error("steps", w.Steps())
	}
}
