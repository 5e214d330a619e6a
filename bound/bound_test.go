package bound

import (
	"math/rand"
	"testing"

	"semaphore/api"
	"semaphore/ilxa"
	"semaphore/inputs"
	"semaphore/layout"
	"semaphore/platform"
)

const yard = `section a
section b
section c
section d
section e
point P b
signal G a
signal H d
route R G : b c : P+ : :
route S H : c : : : P-
route T H : e : : :`

func parse(t *testing.T) api.Layout {
	l, err, line := layout.Parse(yard)
	if err != api.OK {
		t.Fatal(err, line)
	}
	return l
}

func world(t *testing.T, blocks int) *platform.World {
	t.Helper()
	w, err := platform.New(parse(t), blocks)
	if err != api.OK {
		t.Fatal(err)
	}
	return w
}

func begin(t *testing.T, w *platform.World, units ...int) *Calm {
	t.Helper()
	c, err := Begin(w, units)
	if err != api.OK || c.Done() != 0 {
		t.Fatal(err)
	}
	return c
}

func rounds(t *testing.T, c *Calm, n int, in api.Input) {
	t.Helper()
	for range n {
		if err := c.Round(in, in); err != api.OK {
			t.Fatal(err)
		}
	}
}

func shows(t *testing.T, w *platform.World, proceed uint64, stopped bool) {
	t.Helper()
	if out, stop := w.Shown(); out != (api.Output{Proceed: proceed}) || stop != stopped {
		t.Error("shown", out, stop)
	}
}

var setR = api.Input{Normal: 1, Commands: []api.Command{{Kind: api.Set, N: 0}}}

func TestBegin(t *testing.T) { // P30.1
	w := world(t, 10)
	if c, err := Begin(nil, []int{5}); err != api.ErrNil || c != nil {
		t.Error("nil", err)
	}
	for _, units := range [][]int{nil, {}, {2}, {-1}, {0, 2}, {1, -1 << 63}, {0, 1, 1 << 62}} {
		if c, err := Begin(w, units); err != api.ErrArg || c != nil {
			t.Error(units, err)
		}
	}
	if w.Steps() != 0 {
		t.Error("something was done")
	}
	begin(t, w, 1, 1, 1)
	if w.Steps() != 3 {
		t.Error("steps of one unit", w.Steps())
	}
	for unit := range 2 {
		w.Do(platform.Step{Kind: 11, A: unit})
	}
	begin(t, w, 1)
	if w.Up(0) || !w.Up(1) || w.Steps() != 9 {
		t.Error("the unit 1 is started", w.Steps())
	}
	begin(t, w, 1, 0)
	if !w.Up(0) || w.Steps() != 16 {
		t.Error("both units", w.Steps())
	}
}

func TestBeginCalms(t *testing.T) { // P30.1
	w := world(t, 10)
	w.Do(platform.Step{Kind: 10, A: 0, N: 0})
	w.Do(platform.Step{Kind: 15, A: 0, N: 1})
	w.Do(platform.Step{Kind: 16, A: 0, N: 31})
	rounds(t, begin(t, w, 0), K+1, setR)
	shows(t, w, 1, false)
}

func TestExample(t *testing.T) { // P30.2
	w := world(t, 10)
	c := begin(t, w, 0)
	for range K - 1 {
		rounds(t, c, 1, api.Input{})
		shows(t, w, 0, true)
	}
	rounds(t, c, 1, api.Input{})
	shows(t, w, 0, false)
	rounds(t, c, 1, setR)
	shows(t, w, 1, false)
	if c.Done() != K+1 || w.Now() != K+1 {
		t.Error("done", c.Done(), w.Now())
	}
	w.Do(platform.Step{Kind: 5})
	for range 9 {
		w.Do(platform.Step{Kind: 5})
	}
	shows(t, w, 0, true)
	rounds(t, c, 30, setR) // the operator reset in the round K alone
	shows(t, w, 0, true)
}

func TestRoundWrong(t *testing.T) { // P30.2
	w := world(t, 10)
	c := begin(t, w, 0, 1)
	steps := w.Steps()
	nine := api.Input{Commands: make([]api.Command, 9)}
	if c.Round(nine, setR) != api.ErrArg || c.Round(setR, nine) != api.ErrArg || c.Done() != 0 || w.Steps() != steps {
		t.Error("too many commands")
	}
	eight := api.Input{Commands: make([]api.Command, 8), Occupied: 1 << 60}
	if c.Round(eight, setR) != api.OK || c.Round(setR, eight) != api.OK || c.Done() != 2 {
		t.Error("an input that isn't right is read")
	}
	var none *Calm
	if none.Round(nine, nine) != api.ErrNil || none.Done() != 0 {
		t.Error("a nil calm")
	}
	if z := (&Calm{}); z.Round(setR, setR) != api.OK {
		t.Error("a calm that was not begun")
	}
}

func TestRoundOfBoth(t *testing.T) { // P30.2
	w := world(t, 10)
	c := begin(t, w, 1, 0)
	rounds(t, c, K, setR)
	if !w.Active(0) || w.Active(1) || w.Way(0) != 0 || w.Way(1) != 1 {
		t.Error("who leads", w.Active(0), w.Active(1), w.Way(0), w.Way(1))
	}
	rounds(t, c, 2, setR)
	a, _ := w.Kept(0)
	b, ok := w.Kept(1)
	if !ok || a.State != b.State || a.State.Locked != 1 {
		t.Error("the standby doesn't follow", a.State.Locked, b.State.Locked)
	}
	if c.Round(api.Input{Occupied: 1, Normal: 1}, api.Input{Occupied: 16, Normal: 1}) != api.OK {
		t.Error("unlike inputs")
	}
	rows := w.Rows()
	if last := rows[len(rows)-1]; last.Stop || last.In.Occupied != 17 || last.Out.Proceed != 1 {
		t.Error(last)
	}
}

func TestMemory(t *testing.T) { // P30.3
	w := world(t, 10)
	units := []int{0}
	c := begin(t, w, units...)
	units[0] = 1
	in := api.Input{Normal: 1, Commands: append(make([]api.Command, 0, 4), setR.Commands...)}
	for i := range K {
		if i > 0 {
			in.Commands[0].N = 0
		}
		c.Round(in, in)
		in.Commands[0].N = 2
	}
	shows(t, w, 1, false)
	if in.Commands[:2][1] != (api.Command{}) {
		t.Error("what was handed in was changed")
	}
}

func anyInput(r *rand.Rand) api.Input {
	in := api.Input{Occupied: r.Uint64() & r.Uint64() & r.Uint64() & 31, Normal: r.Uint32() & 1, Reverse: r.Uint32() & 1}
	if r.Intn(2) == 0 {
		in.Occupied = 0
	}
	for range r.Intn(3) {
		in.Commands = append(in.Commands, api.Command{Kind: uint8(1 + r.Intn(3)), N: r.Intn(1 + 2*r.Intn(2))})
		if c := &in.Commands[len(in.Commands)-1]; c.Kind == api.Move {
			c.N = 0
		}
	}
	return in
}

// disturb does some steps together, or any one.
func disturb(r *rand.Rand, w *platform.World) {
	a := r.Intn(2)
	step := func(kind uint8, n int) { w.Do(platform.Step{Kind: kind, A: a, N: n}) }
	switch r.Intn(10) {
	case 0, 1, 2:
		in := anyInput(r)
		for n := range 2 {
			w.Do(platform.Step{Kind: 0, A: a, N: n, In: in})
		}
		w.Do(platform.Step{Kind: 1, A: a, Picks: []int{0}})
		for range w.Readings(a) {
			step(2, r.Int())
		}
		w.Do(platform.Step{Kind: 1, A: a, Picks: []int{1, 2, 3}[:1+r.Intn(3)]})
	case 3:
		step(6, 0)
		step(5, 0)
	case 4:
		for range w.Way(a) {
			step(7, r.Intn(2))
		}
	case 5:
		for range 1 + r.Intn(9) {
			step(5, 0)
		}
	case 6:
		w.Do(platform.Step{Kind: 12, A: a, Fates: []uint8{[]uint8{0, 255, uint8(r.Intn(256))}[r.Intn(3)]}})
	default:
		kind, n := uint8(r.Intn(17)), r.Int()-r.Int()
		if kind == 10 {
			n = r.Intn(6)
		}
		w.Do(platform.Step{Kind: kind, A: a, N: n, In: anyInput(r), Picks: []int{r.Intn(4)}, Fates: []uint8{uint8(r.Intn(256))}, Spoil: api.State{Locked: uint64(r.Intn(8)), Points: uint32(r.Intn(2))}})
	}
}

func TestWhatFollows(t *testing.T) { // P30.4
	r := rand.New(rand.NewSource(1))
	l := parse(t)
	m, _ := ilxa.New(l)
	for i := range 400 {
		w := world(t, 4+r.Intn(4)*r.Intn(2))
		for range r.Intn(300) {
			disturb(r, w)
		}
		c := begin(t, w, [][]int{{0}, {1}, {0, 1}}[r.Intn(3)]...)
		for round := 1; round < K+15; round++ {
			a := anyInput(r)
			b := a
			if r.Intn(3) == 0 {
				b = anyInput(r)
			}
			before := len(w.Rows())
			was := leaders(w)
			if c.Round(a, b) != api.OK {
				t.Fatal("a round")
			}
			if round < K {
				continue
			}
			if _, stopped := w.Shown(); stopped {
				t.Fatal("stopped in the round", round, "of the world", i)
			}
			rows := w.Rows()[before:]
			if len(rows) != 1 || rows[0].Stop || !inputs.Same(rows[0].In, inputs.Merge(a, b)) {
				t.Fatal("rows", rows, "in the round", round, "of the world", i)
			}
			kept, _ := w.Kept(rows[0].Unit)
			if round == K {
				continue
			}
			s, out := m.Step(was[rows[0].Unit], rows[0].In)
			if shown, _ := w.Shown(); out != rows[0].Out || shown != out || kept.State != s {
				t.Fatal("shown", shown, "not", out, "in the round", round)
			}
		}
	}
}

// leaders tells what the units keep.
func leaders(w *platform.World) [2]api.State {
	var all [2]api.State
	for n := range all {
		x, _ := w.Kept(n)
		all[n] = x.State
	}
	return all
}
