package crc

import (
	"bytes"
	"hash/crc32"
	"math/rand"
	"testing"
)

// eightNumbers are those of the chapter, by their places.
var eightNumbers = [8]uint32{0x77073096, 0xEE0E612C, 0x076DC419, 0x0EDB8832, 0x1DB71064, 0x3B6E20C8, 0x76DC4190, 0xEDB88320}

// goesInto is the chapter's own wording of how a byte goes into a number.
func goesInto(n uint32, b byte) uint32 {
	unlike := byte(n) ^ b
	n >>= 8
	for k := range 8 {
		if unlike>>k&1 == 1 {
			n ^= eightNumbers[k]
		}
	}
	return n
}

func row(r *rand.Rand, n int) []byte {
	b := make([]byte, n)
	r.Read(b)
	return b
}

func TestSumExamples(t *testing.T) { // P1.1
	for s, want := range map[string]uint32{"123456789": 0xCBF43926, "": 0, "\x00": 0xD202EF8D} {
		if got := Sum([]byte(s)); got != want {
			t.Errorf("Sum(%q) = %08X, not %08X", s, got, want)
		}
	}
	if Sum(nil) != 0 {
		t.Error("the Sum of nil")
	}
}

func TestSumByTheEightNumbers(t *testing.T) { // P1.1
	r := rand.New(rand.NewSource(1))
	for n := range 300 {
		b := row(r, n)
		want := uint32(0xFFFFFFFF)
		for _, x := range b {
			want = goesInto(want, x)
		}
		if got := Sum(b); got != ^want || got != crc32.ChecksumIEEE(b) {
			t.Fatalf("%x: %08X, not %08X", b, got, ^want)
		}
	}
}

func TestChangeExamples(t *testing.T) { // P1.2
	if got, ok := Change(0xCBF43926, '9', '8', 0); !ok || got != Sum([]byte("123456788")) {
		t.Errorf("the last digit: %08X %v", got, ok)
	}
	if got, ok := Change(0, 0, 1, 0); !ok || got != 0x77073096 {
		t.Errorf("0 to 1: %08X %v", got, ok)
	}
	if got, ok := Change(7, 5, 5, 9); !ok || got != 7 {
		t.Errorf("no change: %08X %v", got, ok)
	}
	for _, behind := range []int{-1, -1 << 63, MaxBehind + 1, 1<<63 - 1} {
		if got, ok := Change(7, 5, 6, behind); ok || got != 0 {
			t.Errorf("behind %d: %08X %v", behind, got, ok)
		}
	}
}

func TestChangeIsTheSumOfTheChangedRow(t *testing.T) { // P1.2
	r := rand.New(rand.NewSource(2))
	b := row(r, MaxBehind+1)
	sum := Sum(b)
	for _, at := range []int{0, 1, 2, 1000, MaxBehind / 2, MaxBehind - 1, MaxBehind} {
		from, to := b[at], byte(r.Int())
		b[at] = to
		if got, ok := Change(sum, from, to, len(b)-1-at); !ok || got != Sum(b) {
			t.Errorf("the byte %d: %08X %v, not %08X", at, got, ok, Sum(b))
		}
		b[at] = from
	}
}

func TestFindExamples(t *testing.T) { // P1.3
	if k, by, ok := Find(0x77073096, 1); !ok || k != 0 || by != 1 {
		t.Error("the only byte", k, by, ok)
	}
	for _, c := range []struct {
		unlike uint32
		n      int
	}{{0x77073096, 0}, {0x77073096, -1}, {0x77073096, -1 << 63}, {0, 9}, {0, 0}, {0x77073097, 1}} {
		if k, by, ok := Find(c.unlike, c.n); ok || k != 0 || by != 0 {
			t.Errorf("Find(%08X, %d) = %d %d %v", c.unlike, c.n, k, by, ok)
		}
	}
}

func TestFindIsTheNearestChange(t *testing.T) { // P1.3
	r := rand.New(rand.NewSource(3))
	for i := range 232 {
		n := 1 + r.Intn(40)
		unlike := r.Uint32()
		if i < 32 {
			unlike = 1 << i
		} else if r.Intn(4) > 0 {
			unlike, _ = Change(0, 0, byte(r.Intn(256)), r.Intn(50))
		}
		k, by, ok := Find(unlike, n)
		wantK, wantBy, want := nearest(unlike, n)
		if k != wantK || by != wantBy || ok != want {
			t.Fatalf("Find(%08X, %d) = %d %d %v, not %d %d %v", unlike, n, k, by, ok, wantK, wantBy, want)
		}
	}
}

// nearest tries all changes, the nearest ones to the end first.
func nearest(unlike uint32, n int) (int, byte, bool) {
	for k := range n {
		for by := 1; by < 256; by++ {
			if d, _ := Change(0, 0, byte(by), k); d == unlike {
				return k, byte(by), true
			}
		}
	}
	return 0, 0, false
}

func TestFindAtMaxBehind(t *testing.T) { // P1.3
	far, _ := Change(0, 0, 9, MaxBehind-1)
	if k, by, ok := Find(far, MaxBehind); !ok || k != MaxBehind-1 || by != 9 {
		t.Error("the first byte of the longest row", k, by, ok)
	}
	if _, _, ok := Find(far, MaxBehind-1); ok {
		t.Error("a row that is a byte too short")
	}
	past, _ := Change(0, 0, 9, MaxBehind)
	for _, n := range []int{MaxBehind, MaxBehind + 1, 1<<63 - 1} {
		if k, by, ok := Find(past, n); ok || k != 0 || by != 0 {
			t.Error("longer rows count as the longest one", n, k, by, ok)
		}
	}
}

func TestSumOnlyReads(t *testing.T) { // P1.4
	all := []byte("abcdefgh")
	Sum(all[:3])
	if !bytes.Equal(all, []byte("abcdefgh")) {
		t.Error("the row was changed")
	}
}

func TestWhatIsFoundMends(t *testing.T) { // P1.5
	r := rand.New(rand.NewSource(4))
	for range 300 {
		b := row(r, 1+r.Intn(60))
		sum := Sum(b)
		b[r.Intn(len(b))] ^= byte(1 + r.Intn(255))
		k, by, ok := Find(sum^Sum(b), len(b))
		if !ok {
			t.Fatal("a change that isn't found")
		}
		b[len(b)-1-k] ^= by
		if Sum(b) != sum {
			t.Fatal("the Sum isn't what it was")
		}
	}
}

func TestChangesInAnyOrder(t *testing.T) { // P1.5
	a, _ := Change(77, 1, 2, 5)
	a, _ = Change(a, 8, 3, 9)
	b, _ := Change(77, 8, 3, 9)
	b, _ = Change(b, 1, 2, 5)
	if a != b {
		t.Error("the order counts")
	}
	two, _ := Change(77, 1, 2, 5)
	two, _ = Change(two, 2, 9, 5)
	one, _ := Change(77, 1, 9, 5)
	back, _ := Change(one, 9, 1, 5)
	if two != one || back != 77 {
		t.Error("two changes of one byte; a change and its way back")
	}
}

func TestUnlikeWithin32Bits(t *testing.T) { // P1.5
	r := rand.New(rand.NewSource(5))
	for range 2000 {
		b := row(r, 4+r.Intn(30))
		sum := Sum(b)
		first, turn := r.Intn(len(b)*8-31), r.Uint32()
		if turn == 0 {
			continue
		}
		for i := range 32 {
			at := first + i
			b[at/8] ^= byte(turn>>i&1) << (at % 8)
		}
		if Sum(b) == sum {
			t.Fatal("unlike rows with the same Sum")
		}
	}
}
