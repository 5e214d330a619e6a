package ckpt

import (
	"fmt"
	"math/rand"
	"testing"

	"semaphore/api"
	"semaphore/disk"
	"semaphore/wal"
)

func opened(t *testing.T, d *disk.Disk) *Store {
	t.Helper()
	s, err := Open(d)
	if err != api.OK {
		t.Fatal("opening:", err)
	}
	return s
}

func save(t *testing.T, s *Store, want api.Errno, states ...string) {
	t.Helper()
	for _, b := range states {
		if err := s.Save([]byte(b)); err != want {
			t.Errorf("Save %q: %d", b, err)
		}
	}
}

// has fails, unless these are the states, the last one first, of which that has the number, and so many are free.
func has(t *testing.T, s *Store, number int64, free int, states ...string) {
	t.Helper()
	b, n, ok := s.Last()
	if ok != (len(states) > 0) || n != number || ok && string(b) != states[0] || !ok && len(b) > 0 {
		t.Errorf("Last: %q %d %v, not %d of %q", b, n, ok, number, states)
	}
	for k, want := range states {
		if b, ok := s.Past(k); !ok || string(b) != want {
			t.Errorf("Past %d: %q %v", k, b, ok)
		}
	}
	for _, k := range []int{-1, len(states), 1 << 40, 1<<63 - 1, -1 << 63} {
		if b, ok := s.Past(k); ok || len(b) > 0 {
			t.Errorf("Past %d: %q", k, b)
		}
	}
	if s.Free() != free {
		t.Error("Free", s.Free(), "not", free)
	}
}

func TestOpen(t *testing.T) { // P16.1
	off := disk.New(5)
	off.Crash()
	spoilt := disk.New(5)
	spoilt.Write(0, []byte("x"))
	spoilt.Sync()
	for want, d := range map[api.Errno]*disk.Disk{api.ErrNil: nil, api.ErrArg: disk.New(2), api.ErrDisk: off, api.ErrLog: spoilt} {
		if s, err := Open(d); err != want || s != nil {
			t.Error(want, err)
		}
	}
	has(t, opened(t, disk.New(5)), 0, 3)
	for _, none := range []*Store{nil, {}} {
		if none.Save(nil) != api.ErrNil || none.Save(make([]byte, 999)) != api.ErrNil || none.Check() != api.ErrNil {
			t.Error("a nil store has no error")
		}
		has(t, none, 0, 0)
	}
}

func TestExamples(t *testing.T) { // P16.2, P16.3
	d := disk.New(4)
	s := opened(t, d)
	save(t, s, api.OK, "a", "b", "c")
	has(t, s, 3, 0, "c", "b")
	has(t, opened(t, d), 3, 0, "c", "b")
	d = disk.New(3)
	s = opened(t, d)
	save(t, s, api.OK, "a")
	save(t, s, api.ErrFull, "b", "c")
	has(t, s, 1, 0, "a")
	has(t, opened(t, d), 1, 0, "a")
}

func TestSave(t *testing.T) { // P16.2
	d := disk.New(5)
	s := opened(t, d)
	save(t, s, api.OK, "a", "", string(make([]byte, wal.MaxRecord)))
	steps := d.Steps()
	save(t, s, api.ErrLimit, string(make([]byte, wal.MaxRecord+1)))
	if d.Steps() != steps {
		t.Error("it was truncated for a state that is too long")
	}
	has(t, s, 3, 0, string(make([]byte, wal.MaxRecord)), "", "a")
	save(t, s, api.OK, "d")
	has(t, s, 4, 1, "d", string(make([]byte, wal.MaxRecord)))
	if d.Steps() != steps+4 {
		t.Error("not a Truncate and an Append")
	}
	d.Fail(0)
	save(t, s, api.ErrDisk, "e", "f", string(make([]byte, 999)))
	has(t, s, 4, 1, "d", string(make([]byte, wal.MaxRecord)))
	d.On(nil)
	save(t, s, api.ErrDisk, "g")
	s = opened(t, d)
	save(t, s, api.OK, "h")
	d.Fail(0)
	save(t, s, api.ErrDisk, "i") // at the Truncate
	has(t, s, 5, 0, "h", "d", string(make([]byte, wal.MaxRecord)))
}

func TestCheck(t *testing.T) { // P16.2
	d := disk.New(6)
	s := opened(t, d)
	steps := d.Steps()
	if s.Check() != api.OK || d.Steps() != steps {
		t.Error("of no record")
	}
	save(t, s, api.OK, "a")
	steps = d.Steps()
	if s.Check() != api.OK || d.Steps() != steps {
		t.Error("of one record")
	}
	save(t, s, api.OK, "b", "c")
	has(t, s, 3, 1, "c", "b", "a")
	if s.Check() != api.OK {
		t.Error("of three")
	}
	has(t, s, 3, 3, "c")
	save(t, s, api.OK, "d")
	d.Fail(1)
	if s.Check() != api.ErrDisk || s.Check() != api.ErrDisk {
		t.Error("the disk fails")
	}
	has(t, s, 4, 2, "d", "c")
	d.On([]uint8{255})
	has(t, opened(t, d), 4, 3, "d")
}

func TestMemory(t *testing.T) { // P16.4
	s := opened(t, disk.New(5))
	b := append(make([]byte, 0, 9), "ab"...)
	s.Save(b)
	b[0] = 'x'
	got, _, _ := s.Last()
	got[0] = 'y'
	got, _ = s.Past(0)
	got[1] = 'z'
	has(t, s, 1, 2, "ab")
	if b[:3][2] != 0 {
		t.Error("what was handed in was changed")
	}
}

func TestWhatFollows(t *testing.T) { // P16.5
	r := rand.New(rand.NewSource(1))
	for range 1000 {
		d := disk.New(4 + r.Intn(3))
		s := opened(t, d)
		var saved []string
		for i := range 1 + r.Intn(5) {
			d.Fail(r.Intn(12))
			under := ""
			for j := 0; !d.Off(); j++ {
				if r.Intn(6) == 0 {
					s.Check()
					continue
				}
				b := fmt.Sprint("state ", i, " ", j)
				switch s.Save([]byte(b)) {
				case api.OK:
					saved = append(saved, b)
				case api.ErrFull:
					t.Fatal("full")
				default:
					under = b
				}
			}
			fates := make([]uint8, 2)
			for i := range fates {
				fates[i] = []uint8{0, 255, uint8(r.Intn(256))}[r.Intn(3)]
			}
			d.On(fates)
			s = opened(t, d)
			last, _, ok := s.Last()
			if under != "" && ok && string(last) == under {
				saved = append(saved, under)
			}
			if ok != (len(saved) > 0) {
				t.Fatal("nothing is there")
			}
			for k := 0; ; k++ {
				b, ok := s.Past(k)
				if !ok {
					break
				}
				if string(b) != saved[len(saved)-1-k] {
					t.Fatalf("Past %d: %q, of %q", k, b, saved)
				}
			}
		}
	}
}
