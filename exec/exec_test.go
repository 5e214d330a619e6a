package exec

import (
	"math/rand"
	"testing"

	"semaphore/api"
)

func made(t *testing.T, phases, deadline int, cycle int64) *Exec {
	t.Helper()
	x, err := New(phases, deadline, cycle)
	if err != api.OK {
		t.Fatal(err)
	}
	return x
}

// at fails, unless x tells that.
func at(t *testing.T, x *Exec, cycle int64, phase, left int, late bool) {
	t.Helper()
	if x.Cycle() != cycle || x.Phase() != phase || x.Left() != left || x.Late() != late {
		t.Error("at", x.Cycle(), x.Phase(), x.Left(), x.Late(), "not", cycle, phase, left, late)
	}
}

func done(t *testing.T, x *Exec, phase int, want api.Errno) {
	t.Helper()
	if err := x.Done(phase); err != want {
		t.Error("Done", phase, err)
	}
}

func TestNew(t *testing.T) { // P19.1
	for _, c := range []struct {
		phases, deadline int
		cycle            int64
	}{{0, 1, 0}, {17, 1, 0}, {-1, 1, 0}, {1, 0, 0}, {1, 1001, 0}, {1, -1, 0}, {1, 1, -1}, {1, 1, api.MaxCycle + 1}, {1 << 62, 1, 0}, {1, 1 << 62, 0}} {
		if x, err := New(c.phases, c.deadline, c.cycle); err != api.ErrArg || x != nil {
			t.Error(c, err)
		}
	}
	at(t, made(t, 1, 1, 0), 0, 0, 1, false)
	at(t, made(t, 16, 1000, api.MaxCycle), api.MaxCycle, 0, 1000, false)
}

func TestExample(t *testing.T) { // P19.2, P19.3, P19.4
	x := made(t, 3, 2, 7)
	done(t, x, 1, api.ErrState)
	if n, err := x.Pick([]int{0, 2, 1, 1, 2}); n != 3 || err != api.OK {
		t.Error("Pick", n, err)
	}
	at(t, x, 8, 0, 2, false)
	if x.Tick() != api.OK || x.Tick() != api.OK {
		t.Error("Tick")
	}
	at(t, x, 8, 0, 0, false)
	if x.Tick() != api.ErrLate {
		t.Error("the deadline goes by")
	}
	done(t, x, 0, api.ErrLate)
	if x.Reset() != api.OK {
		t.Error("Reset")
	}
	at(t, x, 8, 0, 2, false)
}

func TestTick(t *testing.T) { // P19.2
	x := made(t, 2, 1, 0)
	if x.Tick() != api.OK {
		t.Error("at the deadline")
	}
	done(t, x, 0, api.OK)
	at(t, x, 0, 1, 0, false)
	done(t, x, 1, api.OK)
	at(t, x, 1, 0, 1, false)
	x.Tick()
	for range 3 {
		if x.Tick() != api.ErrLate {
			t.Error("late")
		}
		at(t, x, 1, 0, 0, true)
	}
}

func TestDone(t *testing.T) { // P19.3
	x := made(t, 2, 5, api.MaxCycle-1)
	for _, phase := range []int{-1, 2, 1 << 62, -1 << 63} {
		done(t, x, phase, api.ErrArg)
	}
	done(t, x, 0, api.OK)
	done(t, x, 0, api.ErrState)
	done(t, x, 1, api.OK)
	at(t, x, api.MaxCycle, 0, 5, false)
	done(t, x, 0, api.OK)
	x.Tick()
	done(t, x, 1, api.ErrLimit)
	at(t, x, api.MaxCycle, 1, 4, false)
	for range 5 {
		x.Tick()
	}
	done(t, x, 2, api.ErrArg)
	done(t, x, 0, api.ErrLate)
	done(t, x, 1, api.ErrLate)
}

func TestPick(t *testing.T) { // P19.3
	for _, c := range []struct {
		picks []int
		n     int
		err   api.Errno
		cycle int64
		phase int
	}{
		{nil, 0, api.OK, 0, 0}, {[]int{1, 2, 1}, 0, api.OK, 0, 0}, {[]int{0, 1, 2, 0, 1, 2, 0}, 7, api.OK, 2, 1}, {[]int{0, 0, 1, 0}, 2, api.OK, 0, 2}, {[]int{0, 3, 1}, 1, api.ErrArg, 0, 1}, {[]int{0, 1, -1}, 2, api.ErrArg, 0, 2},
	} {
		x := made(t, 3, 5, 0)
		if n, err := x.Pick(c.picks); n != c.n || err != c.err {
			t.Error(c.picks, n, err)
		}
		at(t, x, c.cycle, c.phase, 5, false)
	}
	x := made(t, 1, 5, api.MaxCycle-1)
	if n, err := x.Pick([]int{0, 0, 0}); n != 1 || err != api.ErrLimit {
		t.Error("at the last cycle", n, err)
	}
	for range 6 {
		x.Tick()
	}
	if n, err := x.Pick([]int{0}); n != 0 || err != api.ErrLate {
		t.Error("late", n, err)
	}
}

func TestReset(t *testing.T) { // P19.4
	x := made(t, 3, 1, 4)
	if x.Reset() != api.ErrState {
		t.Error("not late")
	}
	done(t, x, 0, api.OK)
	x.Tick()
	if x.Reset() != api.ErrState {
		t.Error("not late yet")
	}
	at(t, x, 4, 1, 0, false)
	x.Tick()
	if x.Reset() != api.OK || x.Reset() != api.ErrState {
		t.Error("late")
	}
	at(t, x, 4, 0, 1, false)
}

func TestNil(t *testing.T) { // P19.2, P19.3, P19.4
	var none *Exec
	at(t, none, 0, 0, 0, true)
	done(t, none, -1, api.ErrNil)
	if n, err := none.Pick([]int{1, 2}); n != 0 || err != api.ErrNil {
		t.Error("Pick", n, err)
	}
	if none.Tick() != api.ErrNil || none.Reset() != api.ErrNil {
		t.Error("a nil one")
	}
	at(t, none, 0, 0, 0, true)
}

func TestWhatFollows(t *testing.T) { // P19.5
	r := rand.New(rand.NewSource(1))
	for range 300 {
		phases, deadline := 1+r.Intn(4), 1+r.Intn(6)
		x := made(t, phases, deadline, 3)
		cycle, next, ticks := int64(3), 0, 0
		for range 100 {
			switch r.Intn(6) {
			case 0:
				if late := x.Late(); x.Tick() == api.OK != (ticks < deadline) {
					t.Fatal("late at", ticks)
				} else if !late {
					ticks++
				}
			case 1:
				if x.Reset() == api.OK {
					if ticks <= deadline {
						t.Fatal("reset, and not late")
					}
					next, ticks = 0, 0
				}
			default:
				phase := r.Intn(phases)
				err := x.Done(phase)
				if (err == api.OK) != (phase == next && ticks <= deadline) {
					t.Fatal("a phase out of order, or late", phase, next, err)
				}
				if err == api.OK {
					next++
				}
				if next == phases {
					cycle, next, ticks = cycle+1, 0, 0
				}
			}
			if x.Cycle() != cycle || x.Phase() != next || x.Late() != (ticks > deadline) {
				t.Fatal("at", x.Cycle(), x.Phase())
			}
		}
	}
}
