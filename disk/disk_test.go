package disk

import (
	"bytes"
	"math/rand"
	"testing"

	"semaphore/api"
)

// padded tells a block that begins with s.
func padded(s string) []byte { return append([]byte(s), make([]byte, BlockSize-len(s))...) }

// reads fails, unless the block i is s and noughts.
func reads(t *testing.T, d *Disk, i int, s string) {
	t.Helper()
	if b, err := d.Read(i); err != api.OK || !bytes.Equal(b, padded(s)) {
		t.Errorf("the block %d: %q %d, not %q", i, b[:min(len(b), 8)], err, s)
	}
}

func TestNew(t *testing.T) { // P14.1
	for blocks, want := range map[int]int{-1: 0, -1 << 63: 0, 0: 0, 1: 1, 4096: 4096, 4097: 4096, 1<<63 - 1: 4096} {
		d := New(blocks)
		if d.Blocks() != want || d.Off() || d.Steps() != 0 || d.Open() != 0 {
			t.Error(blocks, d.Blocks())
		}
		for i := range min(want, 3) {
			reads(t, d, i, "")
		}
		if _, err := d.Read(want); err != api.ErrArg {
			t.Error("past the last block", err)
		}
	}
	if (*Disk)(nil).Blocks() != 0 {
		t.Error("a nil one has blocks")
	}
}

func TestExample(t *testing.T) { // P14.2, P14.3
	d := New(2)
	for range 2 {
		if d.Write(0, []byte("AB")) != api.OK || d.Sync() != api.OK || d.Write(0, []byte("cd")) != api.OK {
			t.Fatal("writing")
		}
		reads(t, d, 0, "cd")
		d.Crash()
		d.On([]uint8{1})
		reads(t, d, 0, "cB")
	}
	d.Write(0, []byte("AB"))
	d.Sync()
	d.Write(0, []byte("cd"))
	d.Crash()
	d.On(nil)
	reads(t, d, 0, "AB")
}

func TestErrors(t *testing.T) { // P14.2
	var none *Disk
	if _, err := none.Read(9); err != api.ErrNil || none.Write(9, nil) != api.ErrNil || none.Sync() != api.ErrNil {
		t.Error("a nil one", err)
	}
	d := New(2)
	for _, i := range []int{-1, 2, -1 << 63, 1<<63 - 1} {
		if b, err := d.Read(i); err != api.ErrArg || len(b) != 0 || d.Write(i, make([]byte, 999)) != api.ErrArg {
			t.Error("no block", i, err)
		}
	}
	if d.Write(1, make([]byte, BlockSize+1)) != api.ErrLimit || d.Steps() != 0 || d.Open() != 0 {
		t.Error("a block that is too long")
	}
	if d.Write(1, bytes.Repeat([]byte{7}, BlockSize)) != api.OK || d.Write(1, []byte("x")) != api.OK {
		t.Error("a whole block")
	}
	reads(t, d, 1, "x")
	d.Crash()
	if b, err := d.Read(9); err != api.ErrDisk || len(b) != 0 || d.Write(9, nil) != api.ErrDisk || d.Sync() != api.ErrDisk || d.Steps() != 2 {
		t.Error("a disk that is off", err)
	}
}

func TestFail(t *testing.T) { // P14.3
	for n := range 6 {
		d := New(2)
		d.Fail(n)
		for i := range n {
			err := d.Sync()
			if i%2 == 0 {
				d.Write(i, []byte("toolong"+string(make([]byte, 300)))) // refused: no step
			}
			if err != api.OK || d.Off() {
				t.Fatal("a step ahead", n, i, err)
			}
		}
		if d.Write(0, []byte("ab")) != api.ErrDisk || !d.Off() || d.Open() != 1 || d.Steps() != int64(n+1) {
			t.Error("the power goes at a Write", n)
		}
		d.On([]uint8{whole})
		reads(t, d, 0, "ab")
		if d.Off() || d.Open() != 0 || d.Sync() != api.OK {
			t.Error("on again, nothing armed")
		}
	}
	d := New(1)
	d.Write(0, []byte("ab"))
	d.Fail(0)
	if d.Sync() != api.ErrDisk || d.Open() != 1 || d.Steps() != 2 {
		t.Error("the power goes at a Sync")
	}
	d.On([]uint8{0})
	reads(t, d, 0, "")
}

func TestArming(t *testing.T) { // P14.3
	d := New(1)
	d.Fail(1)
	d.Fail(2)
	if d.Sync() != api.OK || d.Sync() != api.OK || d.Sync() != api.ErrDisk {
		t.Error("an earlier arming counts")
	}
	d.On(nil)
	for name, disarm := range map[string]func(){"Fail -1": func() { d.Fail(-1) }, "least": func() { d.Fail(-1 << 63) }, "Crash": func() { d.Crash(); d.On(nil) }, "On": func() { d.On(nil) }} {
		d.Fail(0)
		disarm()
		if d.Sync() != api.OK {
			t.Error("armed behind", name)
		}
		d.On(nil)
	}
	d.Write(0, []byte("ab"))
	d.On([]uint8{0})
	reads(t, d, 0, "ab")
	if d.Open() != 1 {
		t.Error("On of a disk that is on does something")
	}
}

func TestNil(t *testing.T) { // P14.3
	var none *Disk
	none.Fail(1)
	none.Crash()
	none.On([]uint8{1})
	if none.Steps() != 0 || none.Open() != 0 || !none.Off() || none.Copy() != nil {
		t.Error("a nil one")
	}
}

func TestFates(t *testing.T) { // P14.3
	d := New(3)
	for i, s := range []string{"aaaa", "bbbb", "cccc"} {
		d.Write(i, []byte(s))
	}
	d.Sync()
	d.Write(0, []byte("AAAA"))
	d.Write(1, []byte("BBBB"))
	d.Write(0, []byte("1111"))
	d.Write(2, bytes.Repeat([]byte("C"), BlockSize))
	d.Crash()
	d.Crash()
	d.On([]uint8{whole, 2, 3, 254, 255, 255})
	reads(t, d, 0, "111A")
	reads(t, d, 1, "BBbb")
	if b, _ := d.Read(2); !bytes.Equal(b, append(bytes.Repeat([]byte("C"), 254), 0, 0)) {
		t.Error("254 bytes of a block")
	}
	d.Crash()
	d.On(nil)
	reads(t, d, 0, "111A")
}

func TestCopy(t *testing.T) { // P14.3
	d := New(2)
	d.Write(0, []byte("a"))
	d.Sync()
	for range 3 { // so that there is room for one more behind them
		d.Write(1, []byte("b"))
	}
	d.Fail(1)
	c := d.Copy()
	if c.Write(0, []byte("x")) != api.OK || c.Sync() != api.ErrDisk || c.Steps() != 7 || c.Open() != 4 {
		t.Error("a copy isn't armed likewise")
	}
	if d.Off() || d.Steps() != 5 || d.Open() != 3 {
		t.Error("what is done to the copy is seen")
	}
	reads(t, d, 0, "a")
	if e := c.Copy(); !e.Off() || e.Open() != 4 {
		t.Error("a copy of one that is off")
	}
	d.Write(0, []byte("y"))
	c.On([]uint8{255, 255, 255, 255})
	reads(t, c, 0, "x")
	reads(t, c, 1, "b")
	d.Crash()
	d.On(nil)
	reads(t, d, 0, "a")
	reads(t, d, 1, "")
}

func TestMemory(t *testing.T) { // P14.4
	d := New(1)
	b := append(make([]byte, 0, 300), "ab"...)
	d.Write(0, b)
	b[0] = 'x'
	got, _ := d.Read(0)
	got[1] = 'x'
	reads(t, d, 0, "ab")
	if b[:3][2] != 0 {
		t.Error("what was handed in was changed")
	}
}

func TestWhatFollows(t *testing.T) { // P14.5
	r := rand.New(rand.NewSource(1))
	for range 400 {
		d := New(3)
		was, now, writes := [3]string{}, [3]string{}, [3]int{}
		d.Fail(r.Intn(20))
		for !d.Off() {
			if r.Intn(3) == 0 {
				if d.Sync() == api.OK {
					was, writes = now, [3]int{}
				}
				continue
			}
			i, s := r.Intn(3), string([]byte{byte('a' + r.Intn(26)), byte('a' + r.Intn(26)), byte('a' + r.Intn(26))})
			writes[i]++
			if d.Write(i, []byte(s)) == api.OK {
				reads(t, d, i, s)
			}
			now[i] = s
		}
		fates := make([]uint8, r.Intn(20))
		for i := range fates {
			fates[i] = []uint8{0, 1, 2, 3, 255}[r.Intn(5)]
		}
		d.On(fates)
		for i := range 3 {
			b, _ := d.Read(i)
			if writes[i] == 0 && !bytes.Equal(b, padded(was[i])) {
				t.Fatal("a block that was not written to")
			}
			if writes[i] == 1 && !torn(b, padded(was[i]), padded(now[i])) {
				t.Fatalf("%q, of %q and %q", b[:3], was[i], now[i])
			}
		}
	}
}

// torn: is b the first bytes of now ahead of the last ones of was?
func torn(b, was, now []byte) bool {
	for k := range len(b) + 1 {
		if bytes.Equal(b[:k], now[:k]) && bytes.Equal(b[k:], was[k:]) {
			return true
		}
	}
	return false
}
