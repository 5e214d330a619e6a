package lockstore

import (
	"math/rand"
	"testing"

	"semaphore/api"
	"semaphore/ckpt"
	"semaphore/disk"
	"semaphore/frame"
)

func opened(t *testing.T, d *disk.Disk) *Store {
	t.Helper()
	s, err := Open(d)
	if err != api.OK {
		t.Fatal("opening:", err)
	}
	return s
}

func locked(x uint64) api.State { return api.State{Locked: x} }

// has fails, unless the store has that; of an epoch below 0: nothing.
func has(t *testing.T, s *Store, state api.State, epoch, cycle, writes int64) {
	t.Helper()
	want := epoch >= 0
	if !want {
		epoch = 0
	}
	got, e, c, ok := s.Last()
	if got != state || e != epoch || c != cycle || ok != want || s.Writes() != writes {
		t.Error("it has", got.Locked, e, c, ok, "and wrote", s.Writes())
	}
}

func save(t *testing.T, s *Store, want api.Errno, state api.State, epoch, cycle int64) {
	t.Helper()
	if err := s.Save(state, epoch, cycle); err != want {
		t.Error("Save", state.Locked, epoch, cycle, err)
	}
}

func TestOpen(t *testing.T) { // P17.1
	off := disk.New(5)
	off.Crash()
	for want, d := range map[api.Errno]*disk.Disk{api.ErrNil: nil, api.ErrArg: disk.New(2), api.ErrDisk: off} {
		if s, err := Open(d); err != want || s != nil {
			t.Error(want, err)
		}
	}
	for name, b := range map[string][]byte{"empty": {}, "junk": []byte("junk"), "a state": frame.PutState(locked(1)), "a byte more": append(frame.PutLog(frame.Log{}), 0)} {
		d := disk.New(5)
		row, _ := ckpt.Open(d)
		row.Save(frame.PutLog(frame.Log{Epoch: 1}))
		row.Save(b)
		if s, err := Open(d); err != api.ErrLog || s != nil {
			t.Error(name, err)
		}
		row.Save(frame.PutLog(frame.Log{Epoch: 1, Cycle: 2, State: locked(3)}))
		has(t, opened(t, d), locked(3), 1, 2, 0)
	}
	has(t, opened(t, disk.New(5)), api.State{}, -1, 0, 0)
}

func TestExample(t *testing.T) { // P17.2, P17.3
	d := disk.New(5)
	s := opened(t, d)
	save(t, s, api.OK, locked(8), 1, 9)
	has(t, s, locked(8), 1, 9, 1)
	save(t, s, api.OK, locked(8), 1, 10)
	has(t, s, locked(8), 1, 9, 1)
	save(t, s, api.ErrEpoch, locked(8), 0, 11)
	has(t, opened(t, d), locked(8), 1, 9, 0)
}

func TestSave(t *testing.T) { // P17.2
	d := disk.New(4)
	s := opened(t, d)
	for _, n := range []int64{-1, api.MaxCycle + 1, -1 << 63, 1<<63 - 1} {
		save(t, s, api.ErrArg, locked(1), n, 0)
		save(t, s, api.ErrArg, locked(1), 0, n)
	}
	save(t, s, api.OK, api.State{}, 0, 0)
	has(t, s, api.State{}, 0, 0, 1)
	save(t, s, api.OK, locked(1), 3, 7)
	save(t, s, api.OK, locked(1), 4, 2)
	has(t, s, locked(1), 4, 2, 3)
	save(t, s, api.ErrArg, locked(1), 3, -1)
	save(t, s, api.ErrEpoch, locked(1), 3, 8)
	full := api.State{Locked: 1, Used: 2, Cancelled: 4, Points: 8}
	for i, change := range []func(*api.State){func(x *api.State) { x.Locked++ }, func(x *api.State) { x.Used++ }, func(x *api.State) { x.Cancelled++ }, func(x *api.State) { x.Points++ }, func(x *api.State) { x.Timers[63]++ }} {
		change(&full)
		save(t, s, api.OK, full, 4, int64(i))
		has(t, s, full, 4, int64(i), int64(4+i))
		has(t, opened(t, d), full, 4, int64(i), 0)
	}
	save(t, s, api.OK, full, api.MaxCycle, api.MaxCycle)
	has(t, s, full, api.MaxCycle, api.MaxCycle, 9)
	d.Fail(0)
	save(t, s, api.ErrDisk, locked(1), api.MaxCycle, 0)
	save(t, s, api.ErrDisk, locked(2), api.MaxCycle, 0)
	save(t, s, api.OK, full, api.MaxCycle, 1)
	has(t, s, full, api.MaxCycle, api.MaxCycle, 9)
}

func TestFull(t *testing.T) { // P17.2
	s := opened(t, disk.New(3))
	save(t, s, api.OK, locked(1), 1, 1)
	save(t, s, api.ErrFull, locked(2), 1, 2)
	save(t, s, api.OK, locked(1), 1, 3)
	has(t, s, locked(1), 1, 1, 1)
}

func TestCoversAndCheck(t *testing.T) { // P17.3
	d := disk.New(6)
	s := opened(t, d)
	if !s.Covers(api.State{Used: 1}) || s.Covers(locked(1)) || s.Check() != api.OK {
		t.Error("an empty one")
	}
	save(t, s, api.OK, locked(6), 1, 1)
	for x, want := range map[uint64]bool{0: true, 2: true, 4: true, 6: true, 1: false, 7: false, 8: false} {
		if s.Covers(locked(x)) != want {
			t.Error("Covers", x)
		}
	}
	save(t, s, api.OK, locked(1), 1, 2)
	steps := d.Steps()
	if s.Check() != api.OK || d.Steps() != steps+2 || s.Check() != api.OK || d.Steps() != steps+2 {
		t.Error("Check")
	}
	has(t, s, locked(1), 1, 2, 2)
	save(t, s, api.OK, locked(2), 1, 2)
	d.Fail(0)
	if s.Check() != api.ErrDisk {
		t.Error("Check of a disk that fails")
	}
}

func TestNil(t *testing.T) { // P17.2, P17.3
	var none *Store
	save(t, none, api.ErrNil, locked(1), -1, -1)
	has(t, none, api.State{}, -1, 0, 0)
	if none.Covers(api.State{}) || none.Check() != api.ErrNil {
		t.Error("a nil one")
	}
	save(t, &Store{}, api.ErrNil, locked(1), 1, 1)
}

func TestWhatFollows(t *testing.T) { // P17.4
	r := rand.New(rand.NewSource(1))
	for range 1000 {
		d := disk.New(4 + r.Intn(3))
		s := opened(t, d)
		var kept, under frame.Log
		for range 1 + r.Intn(5) {
			d.Fail(r.Intn(10))
			under = frame.Log{}
			for !d.Off() {
				x := frame.Log{Epoch: kept.Epoch + int64(r.Intn(3)) - 1, Cycle: kept.Cycle + 1, State: locked(uint64(r.Intn(8)))}
				if x.Epoch < 0 {
					continue
				}
				switch err := s.Save(x.State, x.Epoch, x.Cycle); {
				case x.Epoch < kept.Epoch:
					if err != api.ErrEpoch {
						t.Fatal("an epoch falls", err)
					}
				case err != api.OK:
					under = x
				case s.Writes() > 0 && (x.Epoch != kept.Epoch || x.State != kept.State || kept.Cycle == 0):
					kept = x
				}
			}
			d.On([]uint8{[]uint8{0, 255, uint8(r.Intn(256))}[r.Intn(3)], uint8(r.Intn(256))})
			s = opened(t, d)
			state, epoch, cycle, ok := s.Last()
			got := frame.Log{Epoch: epoch, Cycle: cycle, State: state}
			if got == under && ok {
				kept = under
			}
			if got != kept {
				t.Fatal("it has", got.State.Locked, epoch, cycle, "not", kept.State.Locked, kept.Epoch, kept.Cycle, "nor", under.State.Locked, under.Epoch, under.Cycle)
			}
		}
	}
}
