package link

import (
	"bytes"
	"fmt"
	"math/rand"
	"testing"

	"semaphore/api"
	"semaphore/frame"
)

func end(t *testing.T, from, to uint8, first int64) *End {
	t.Helper()
	e, err := New(from, to, first)
	if err != api.OK {
		t.Fatal(err)
	}
	return e
}

// sent tells the frame of what e sends.
func sent(t *testing.T, e *End, s string) []byte {
	t.Helper()
	f, err := e.Send([]byte(s))
	if err != api.OK {
		t.Fatal(err)
	}
	return f
}

// hears fails, unless e hears that, or answers that error.
func hears(t *testing.T, e *End, f []byte, s string, want api.Errno) {
	t.Helper()
	if b, err := e.Hear(f); string(b) != s || err != want {
		t.Errorf("%q %d, not %q %d", b, err, s, want)
	}
}

// tells fails, unless e tells these numbers.
func tells(t *testing.T, e *End, sent, heard, acked, lost int64) {
	t.Helper()
	if e.Sent() != sent || e.Heard() != heard || e.Acked() != acked || e.Lost() != lost {
		t.Error(e.Sent(), e.Heard(), e.Acked(), e.Lost(), "not", sent, heard, acked, lost)
	}
}

func TestWire(t *testing.T) { // P18.1
	var w Wire
	for i, s := range []string{"a", "b", "c"} {
		if w.Len() != i || w.Put([]byte(s)) != api.OK {
			t.Error("Put", s)
		}
	}
	for _, i := range []int{-1, 3, -1 << 63, 1<<63 - 1} {
		if b, err := w.Take(i); err != api.ErrNone || len(b) > 0 || w.Double(i) != api.ErrNone {
			t.Error("no message", i)
		}
	}
	if w.Double(0) != api.OK || w.Len() != 4 {
		t.Error("Double")
	}
	for _, c := range []struct {
		i int
		s string
	}{{1, "b"}, {2, "a"}, {0, "a"}, {0, "c"}} {
		if b, err := w.Take(c.i); err != api.OK || string(b) != c.s {
			t.Errorf("Take %d: %q %d", c.i, b, err)
		}
	}
	if b, err := w.Take(0); err != api.ErrNone || len(b) > 0 || w.Len() != 0 {
		t.Error("of none")
	}
	for range MaxWay {
		if w.Put(nil) != api.OK {
			t.Error("as many as may be")
		}
	}
	if w.Put(nil) != api.ErrLimit || w.Double(0) != api.ErrLimit || w.Double(MaxWay) != api.ErrNone || w.Len() != MaxWay {
		t.Error("one more")
	}
	w.Take(5)
	if w.Double(MaxWay-2) != api.OK || w.Len() != MaxWay {
		t.Error("room again")
	}
	var none *Wire
	if b, err := none.Take(0); err != api.ErrNil || len(b) > 0 || none.Put(nil) != api.ErrNil || none.Double(9) != api.ErrNil || none.Len() != 0 {
		t.Error("a nil one")
	}
}

func TestNew(t *testing.T) { // P18.2
	for _, c := range []struct {
		from, to uint8
		first    int64
	}{{1, 1, 1}, {1, 2, 0}, {1, 2, -1}, {1, 2, 1<<61 + 1}, {1, 2, -1 << 63}, {1, 2, 1<<63 - 1}} {
		if e, err := New(c.from, c.to, c.first); err != api.ErrArg || e != nil {
			t.Error(c, err)
		}
	}
	tells(t, end(t, 1, 2, 1), 0, 0, 0, 0)
	tells(t, end(t, 255, 0, 1<<61), 1<<61-1, 0, 0, 0)
}

func TestSend(t *testing.T) { // P18.3
	e := end(t, 3, 4, 7)
	hears(t, e, frame.PutLink(frame.Link{From: 4, To: 3, Seq: 99}), "", api.OK)
	f := sent(t, e, "abc")
	if want := frame.PutLink(frame.Link{From: 3, To: 4, Seq: 7, Ack: 99, B: []byte("abc")}); !bytes.Equal(f, want) {
		t.Errorf("% X, not % X", f, want)
	}
	if b, err := e.Send(make([]byte, frame.MaxPayload+1)); err != api.ErrLimit || len(b) > 0 {
		t.Error("too many bytes", err)
	}
	tells(t, e, 7, 99, 0, 0)
	if b, err := e.Send(make([]byte, frame.MaxPayload)); err != api.OK || frame.Kind(b) != 5 {
		t.Error("as many bytes as may be", err)
	}
	tells(t, e, 8, 99, 0, 0)
	e.Seq = 1 << 62
	if f := sent(t, e, ""); frame.Kind(f) != 5 {
		t.Error("the last number")
	}
	if b, err := e.Send(nil); err != api.ErrLimit || len(b) > 0 || e.Sent() != 1<<62 {
		t.Error("behind the last number", err)
	}
}

func TestExample(t *testing.T) { // P18.4
	one, two := end(t, 1, 2, 1), end(t, 2, 1, 1)
	a, b, _, d := sent(t, one, "a"), sent(t, one, "b"), sent(t, one, "c"), sent(t, one, "d")
	hears(t, two, b, "b", api.OK)
	hears(t, two, a, "", api.ErrLink)
	hears(t, two, d, "d", api.OK)
	hears(t, two, d, "", api.ErrLink)
	tells(t, two, 0, 4, 0, 1)
	hears(t, one, sent(t, two, "x"), "x", api.OK)
	tells(t, one, 4, 1, 4, 0)
}

func TestHearWrong(t *testing.T) { // P18.4
	e := end(t, 1, 2, 1)
	sent(t, e, "")
	hears(t, e, frame.PutLink(frame.Link{From: 2, To: 1, Seq: 5, B: []byte("x")}), "x", api.OK)
	for want, m := range map[api.Errno][]frame.Link{
		api.ErrArg:  {{From: 1, To: 2, Seq: 9}, {From: 2, To: 2, Seq: 9}, {From: 1, To: 1, Seq: 9}, {From: 3, To: 1, Seq: 9}, {From: 2, To: 3, Seq: 1}},
		api.ErrLink: {{From: 2, To: 1, Seq: 5, Ack: 1}, {From: 2, To: 1, Seq: 4, Ack: 1}, {From: 2, To: 1, Seq: 0}},
	} {
		for _, x := range m {
			hears(t, e, frame.PutLink(x), "", want)
		}
	}
	for _, f := range [][]byte{nil, {5}, []byte("junk"), frame.PutState(api.State{}), append(frame.PutLink(frame.Link{From: 2, To: 1, Seq: 9}), 0)} {
		hears(t, e, f, "", api.ErrFrame)
	}
	tells(t, e, 1, 5, 0, 0)
	hears(t, end(t, 1, 2, 1), frame.PutLink(frame.Link{From: 2, To: 1}), "", api.ErrLink)
}

func TestAcked(t *testing.T) { // P18.4
	e := end(t, 1, 2, 10)
	for range 3 {
		sent(t, e, "")
	}
	for i, c := range []struct{ ack, acked int64 }{{0, 0}, {11, 11}, {10, 11}, {13, 11}, {1 << 62, 11}, {12, 12}} {
		hears(t, e, frame.PutLink(frame.Link{From: 2, To: 1, Seq: int64(i + 1), Ack: c.ack}), "", api.OK)
		if e.Acked() != c.acked {
			t.Error(c, e.Acked())
		}
	}
	early := end(t, 1, 2, 10)
	hears(t, early, frame.PutLink(frame.Link{From: 2, To: 1, Seq: 1, Ack: 9}), "", api.OK)
	tells(t, early, 9, 1, 9, 0)
}

func TestNil(t *testing.T) { // P18.3, P18.4, P18.5
	var none *End
	if b, err := none.Send(make([]byte, 9999)); err != api.ErrNil || len(b) > 0 {
		t.Error("Send", err)
	}
	hears(t, none, nil, "", api.ErrNil)
	tells(t, none, 0, 0, 0, 0)
}

func TestMemory(t *testing.T) { // P18.6
	var w Wire
	b := append(make([]byte, 0, 9), "ab"...)
	w.Put(b)
	w.Double(0)
	b[0] = 'x'
	one, _ := w.Take(0)
	one[1] = 'y'
	if two, _ := w.Take(0); string(two) != "ab" {
		t.Errorf("shared: %q", two)
	}
	e, other := end(t, 1, 2, 1), end(t, 2, 1, 1)
	f, _ := e.Send(b)
	b[1] = 'z'
	heard, _ := other.Hear(f)
	if string(heard) != "xb" || b[:3][2] != 0 {
		t.Errorf("%q", heard)
	}
	before := bytes.Clone(f)
	heard[0] = 0
	if !bytes.Equal(f, before) {
		t.Error("the frame was changed")
	}
}

func TestWhatFollows(t *testing.T) { // P18.7
	r := rand.New(rand.NewSource(1))
	for range 300 {
		var w Wire
		from, to := end(t, 1, 2, 1), end(t, 2, 1, 1)
		last, first, number, heard := -1, int64(1), 0, map[int64]bool{}
		for range 200 {
			switch i := r.Intn(max(w.Len(), 1)); r.Intn(6) {
			case 0, 1:
				w.Put(sent(t, from, fmt.Sprint(number)))
				number++
			case 2:
				w.Double(i)
			case 3:
				if f, err := w.Take(i); err == api.OK && r.Intn(3) == 0 {
					f[r.Intn(len(f))] ^= 1 << r.Intn(8)
					hears(t, to, f, "", api.ErrFrame)
				}
			case 4:
				if r.Intn(10) == 0 {
					first = from.Sent() + 1 + int64(r.Intn(5))
					from = end(t, 1, 2, first)
				}
				if f := sent(t, to, ""); r.Intn(2) == 0 {
					hears(t, from, f, "", api.OK)
				}
				if from.Acked() > 0 && from.Acked() >= first && !heard[from.Acked()] {
					t.Fatal("acked, and not heard")
				}
			default:
				f, _ := w.Take(i)
				b, err := to.Hear(f)
				if err != api.OK {
					continue
				}
				n := 0
				if fmt.Sscan(string(b), &n); n <= last || n >= number {
					t.Fatal("not in order", n, last)
				}
				last = n
				heard[to.Heard()] = true
			}
		}
		if last < 3 {
			t.Fatal("hardly anything was heard")
		}
	}
}
