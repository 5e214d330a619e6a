package relay

import (
	"math/rand"
	"testing"

	"semaphore/api"
	"semaphore/frame"
)

const all = ^uint64(0)

func out(epoch, cycle int64, proceed uint64, points uint32) frame.Out {
	return frame.Out{Epoch: epoch, Cycle: cycle, Output: api.Output{Proceed: proceed, Points: points}}
}

func locked(x uint64) api.State { return api.State{Locked: x} }

func made(t *testing.T, patience int) *Relay {
	t.Helper()
	r, err := New(patience)
	if err != api.OK {
		t.Fatal(err)
	}
	return r
}

// going is a relay that was reset.
func going(t *testing.T, patience int) *Relay {
	t.Helper()
	r := made(t, patience)
	if err := r.Reset(); err != api.OK {
		t.Fatal(err)
	}
	return r
}

func is(t *testing.T, got, want api.Errno) {
	t.Helper()
	if got != want {
		t.Error("error", got, "not", want)
	}
}

func shows(t *testing.T, r *Relay, proceed uint64, points uint32, stopped bool) {
	t.Helper()
	if got, stop := r.Shown(); got != (api.Output{Proceed: proceed, Points: points}) || stop != stopped {
		t.Error("shown", got, stop)
	}
}

func at(t *testing.T, r *Relay, epoch int64, pair int, cycle int64) {
	t.Helper()
	if r.Epoch() != epoch || r.Pair() != pair || r.Cycle() != cycle {
		t.Error("at", r.Epoch(), r.Pair(), r.Cycle(), "not", epoch, pair, cycle)
	}
}

func TestNew(t *testing.T) { // P24.1
	for _, n := range []int{0, -1, 1001, 1 << 62, -1 << 63} {
		if r, err := New(n); err != api.ErrArg || r != nil {
			t.Error(n, err)
		}
	}
	for _, n := range []int{1, 1000} {
		r := made(t, n)
		shows(t, r, 0, 0, true)
		at(t, r, 0, -1, -1)
		if w, ok := r.Witness(); ok || w != (frame.Log{}) {
			t.Error("a witness at first")
		}
	}
}

func TestExample(t *testing.T) { // P24.2 to P24.5
	r := made(t, 2)
	is(t, r.Reset(), api.OK)
	is(t, r.Admit(0, out(1, 5, 3, 0), locked(3)), api.OK)
	shows(t, r, 3, 0, false)
	at(t, r, 1, 0, 5)
	is(t, r.Admit(1, out(1, 6, 3, 0), locked(3)), api.ErrEpoch)
	is(t, r.Admit(1, out(2, 1, 4, 0), locked(4)), api.OK)
	shows(t, r, 4, 0, false)
	is(t, r.Admit(0, out(1, 9, 3, 0), locked(3)), api.ErrEpoch)
	for range 3 {
		r.Tick()
	}
	shows(t, r, 0, 0, true)
	is(t, r.Admit(1, out(2, 2, 4, 0), locked(4)), api.ErrStop)
	at(t, r, 2, 1, 1)
}

func TestFence(t *testing.T) { // P24.2
	r := going(t, 5)
	is(t, r.Fence(1, 3), api.OK)
	at(t, r, 3, 1, -1)
	for _, pair := range []int{-1, 2, 1 << 62} {
		is(t, r.Fence(pair, 9), api.ErrArg)
		is(t, r.Fence(pair, 1), api.ErrArg)
	}
	for _, epoch := range []int64{0, -1, api.MaxCycle + 1, -1 << 63} {
		is(t, r.Fence(1, epoch), api.ErrArg)
	}
	is(t, r.Fence(1, 2), api.ErrEpoch)
	is(t, r.Fence(0, 3), api.ErrEpoch)
	is(t, r.Admit(1, out(3, 0, 1, 7), locked(1)), api.OK)
	is(t, r.Fence(1, 3), api.OK)
	at(t, r, 3, 1, 0)
	is(t, r.Fence(0, 4), api.OK)
	at(t, r, 4, 0, -1)
	shows(t, r, 1, 7, false)
	if w, ok := r.Witness(); !ok || w != (frame.Log{Epoch: 3, State: locked(1)}) {
		t.Error("the witness", w)
	}
	is(t, r.Fence(0, api.MaxCycle), api.OK)
	at(t, r, api.MaxCycle, 0, -1)
}

func TestAdmit(t *testing.T) { // P24.3
	r := going(t, 5)
	is(t, r.Admit(0, out(0, 1, 0, 0), locked(0)), api.ErrArg)
	is(t, r.Admit(2, out(1, 1, 0, 0), locked(0)), api.ErrArg)
	for _, cycle := range []int64{-1, api.MaxCycle + 1, -1 << 63} {
		is(t, r.Admit(0, out(1, cycle, 0, 0), locked(0)), api.ErrArg)
	}
	is(t, r.Admit(0, out(1, 1, 3, 0), locked(2)), api.ErrArg)
	at(t, r, 0, -1, -1)
	s := api.State{Locked: 7, Used: 1, Points: 9}
	s.Timers[5] = 3
	is(t, r.Admit(0, out(1, 4, 6, 8), s), api.OK)
	shows(t, r, 6, 8, false)
	if w, ok := r.Witness(); !ok || w != (frame.Log{Epoch: 1, Cycle: 4, State: s}) {
		t.Error("the witness", w, ok)
	}
	for _, cycle := range []int64{4, 3, 0} {
		is(t, r.Admit(0, out(1, cycle, 1, 1), locked(all)), api.ErrState)
	}
	shows(t, r, 6, 8, false)
	is(t, r.Admit(1, out(1, 9, 3, 0), locked(0)), api.ErrEpoch)
	is(t, r.Admit(1, out(2, 9, 3, 0), locked(0)), api.ErrArg)
	at(t, r, 1, 0, 4)
	is(t, r.Admit(0, out(1, api.MaxCycle, 0, 0), locked(0)), api.OK)
	is(t, r.Admit(0, out(2, 0, 0, 0), locked(0)), api.OK)
	at(t, r, 2, 0, 0)
}

func TestAdmitWhileStopped(t *testing.T) { // P24.3
	r := made(t, 5)
	is(t, r.Admit(1, out(3, 1, 1, 1), locked(1)), api.ErrStop)
	at(t, r, 3, 1, -1)
	shows(t, r, 0, 0, true)
	if _, ok := r.Witness(); ok {
		t.Error("it was not admitted")
	}
	is(t, r.Reset(), api.OK)
	is(t, r.Admit(1, out(3, 1, 1, 1), locked(1)), api.OK)
	is(t, r.Stop(1, 3), api.OK)
	is(t, r.Admit(1, out(3, 1, 1, 1), locked(1)), api.ErrStop)
}

func TestStop(t *testing.T) { // P24.3
	r := going(t, 5)
	is(t, r.Admit(0, out(2, 1, 1, 6), locked(1)), api.OK)
	is(t, r.Stop(0, 1), api.ErrEpoch)
	is(t, r.Stop(1, 2), api.ErrEpoch)
	is(t, r.Stop(3, 2), api.ErrArg)
	is(t, r.Stop(0, 0), api.ErrArg)
	shows(t, r, 1, 6, false)
	is(t, r.Stop(0, 2), api.OK)
	shows(t, r, 0, 6, true)
	at(t, r, 2, 0, 1)
	is(t, r.Reset(), api.OK)
	is(t, r.Stop(1, 5), api.OK)
	shows(t, r, 0, 6, true)
	at(t, r, 5, 1, -1)
}

func TestTickAndReset(t *testing.T) { // P24.4
	r := going(t, 2)
	is(t, r.Reset(), api.ErrState)
	is(t, r.Admit(0, out(1, 1, 1, 5), locked(1)), api.OK)
	r.Tick()
	r.Tick()
	shows(t, r, 1, 5, false)
	is(t, r.Admit(0, out(1, 2, 1, 5), locked(1)), api.OK)
	r.Tick()
	r.Tick()
	is(t, r.Admit(0, out(1, 2, 1, 5), locked(1)), api.ErrState)
	shows(t, r, 1, 5, false)
	r.Tick()
	shows(t, r, 0, 5, true)
	r.Tick()
	is(t, r.Reset(), api.OK)
	shows(t, r, 0, 5, false)
	r.Tick()
	r.Tick()
	shows(t, r, 0, 5, false)
	r.Tick()
	shows(t, r, 0, 5, true)
	at(t, r, 1, 0, 2)
	if w, ok := r.Witness(); !ok || w.Cycle != 2 {
		t.Error("the witness stays", w, ok)
	}
}

func TestNil(t *testing.T) { // P24.2 to P24.5
	var r *Relay
	is(t, r.Fence(9, 9), api.ErrNil)
	is(t, r.Admit(9, out(1, 1, 1, 1), locked(0)), api.ErrNil)
	is(t, r.Stop(9, 9), api.ErrNil)
	is(t, r.Reset(), api.ErrNil)
	r.Tick()
	shows(t, r, 0, 0, true)
	at(t, r, 0, -1, -1)
	if w, ok := r.Witness(); ok || w != (frame.Log{}) {
		t.Error("a nil one has a witness")
	}
}

func TestWhatFollows(t *testing.T) { // P24.6
	rnd := rand.New(rand.NewSource(1))
	for range 400 {
		patience := 1 + rnd.Intn(4)
		r := made(t, patience)
		epochs, reset, silence := map[int64]int{}, false, 0
		last := api.Output{}
		for range 100 {
			pair, epoch, cycle := rnd.Intn(2), r.Epoch()-1+int64(rnd.Intn(5)/2), r.Cycle()-1+int64(rnd.Intn(4))
			was, wasCycle := r.Epoch(), r.Cycle()
			switch rnd.Intn(9) {
			case 0:
				if r.Stop(pair, epoch) == api.OK {
					reset = false
				}
			case 1, 2:
				r.Tick()
				silence++
			case 3, 4:
				if r.Reset() == api.OK {
					reset, silence, last.Proceed = true, 0, 0
				}
			case 5:
				r.Fence(pair, epoch)
			default:
				x := out(epoch, cycle, rnd.Uint64()&3, rnd.Uint32()&3)
				if r.Admit(pair, x, locked(rnd.Uint64()&3)) != api.OK {
					break
				}
				if owner, ok := epochs[epoch]; ok && owner != pair || !reset || epoch == was && cycle <= wasCycle {
					t.Fatal("admitted", pair, x)
				}
				epochs[epoch], silence, last = pair, 0, x.Output
			}
			if silence > patience {
				reset = false
			}
			shown, stopped := r.Shown()
			w, _ := r.Witness()
			if r.Epoch() < was || stopped == reset || stopped && shown.Proceed != 0 || !stopped && shown != last || shown.Proceed&^w.State.Locked != 0 || shown.Points != last.Points {
				t.Fatal("shown", shown, stopped, "of", last)
			}
		}
	}
}
