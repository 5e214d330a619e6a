package vote

import (
	"math/rand"
	"testing"

	"semaphore/api"
)

func frame(cycle int64) Frame {
	return Frame{Cycle: cycle, Epoch: 2, Out: api.Output{Proceed: 3, Points: 4}}
}

// shows fails, unless v shows f, or nothing where that is empty.
func shows(t *testing.T, v *Vote, f Frame) {
	t.Helper()
	if got, ok := v.Shown(); got != f || ok != (f != Frame{}) {
		t.Error("shown:", got, ok)
	}
}

// put fails, unless v answers so.
func put(t *testing.T, v *Vote, channel int, f Frame, want api.Errno) {
	t.Helper()
	if got := v.Put(channel, f); got != want {
		t.Error("Put", channel, f, got)
	}
}

func TestNew(t *testing.T) { // P12.1
	v := New()
	shows(t, v, Frame{})
	if v.Stopped() || v.Last() != 0 || v.End() != api.OK {
		t.Error("a new one")
	}
	var none *Vote
	put(t, none, 0, frame(1), api.ErrNil)
	put(t, none, 7, frame(1), api.ErrNil)
	shows(t, none, Frame{})
	none.Reset()
	none.Stop()
	if none.End() != api.ErrNil || !none.Stopped() || none.Last() != 0 {
		t.Error("a nil one")
	}
}

func TestExamples(t *testing.T) { // P12.2
	v := New()
	f, g, h := frame(1), frame(2), frame(2)
	h.Out.Points = 5
	put(t, v, 0, f, api.OK)
	shows(t, v, Frame{})
	put(t, v, 1, f, api.OK)
	shows(t, v, f)
	put(t, v, 0, g, api.OK)
	shows(t, v, f)
	put(t, v, 1, h, api.ErrStop)
	shows(t, v, Frame{})
	put(t, v, 0, g, api.ErrStop)
	v.Reset()
	put(t, v, 0, g, api.OK)
	put(t, v, 1, g, api.OK)
	shows(t, v, g)
	put(t, v, 0, f, api.ErrStop)
	shows(t, v, Frame{})
	v = New()
	put(t, v, 0, f, api.OK)
	if v.End() != api.ErrStop || !v.Stopped() {
		t.Error("the end of a cycle with one frame")
	}
}

func TestPutWrong(t *testing.T) { // P12.2
	v := New()
	put(t, v, 1, frame(1), api.OK)
	for _, channel := range []int{-1, 2, -1 << 63, 1<<63 - 1} {
		put(t, v, channel, frame(1), api.ErrArg)
	}
	put(t, v, 0, frame(1), api.OK)
	shows(t, v, frame(1))
	v.Stop()
	put(t, v, 2, frame(2), api.ErrArg)
	for _, cycle := range []int64{0, -1, -1 << 63} {
		v = New()
		put(t, v, 0, frame(cycle), api.ErrStop)
		if !v.Stopped() {
			t.Error("not stopped behind the cycle", cycle)
		}
	}
	v = New()
	put(t, v, 1, frame(1), api.OK)
	put(t, v, 1, frame(1), api.ErrStop)
	put(t, v, 0, frame(1), api.ErrStop)
	v = New()
	put(t, v, 0, frame(5), api.OK)
	put(t, v, 1, frame(5), api.OK)
	put(t, v, 1, frame(5), api.ErrStop)
	shows(t, v, Frame{})
}

func TestAllFieldsCount(t *testing.T) { // P12.2
	for name, spoil := range map[string]func(*Frame){
		"cycle": func(f *Frame) { f.Cycle++ }, "epoch": func(f *Frame) { f.Epoch++ }, "proceed": func(f *Frame) { f.Out.Proceed++ }, "points": func(f *Frame) { f.Out.Points++ },
	} {
		v, f := New(), frame(1)
		spoil(&f)
		put(t, v, 0, frame(1), api.OK)
		put(t, v, 1, f, api.ErrStop)
		if !v.Stopped() {
			t.Error(name)
		}
	}
}

func TestEnd(t *testing.T) { // P12.3
	for channel := range 2 {
		v := New()
		put(t, v, channel, frame(1), api.OK)
		if v.End() != api.ErrStop || !v.Stopped() || v.End() != api.ErrStop {
			t.Error("a frame of one channel")
		}
		v.Reset()
		put(t, v, 0, frame(1), api.OK)
		put(t, v, 1, frame(1), api.OK)
		if v.End() != api.OK || v.Stopped() {
			t.Error("both frames")
		}
		shows(t, v, frame(1))
	}
}

func TestResetAndStop(t *testing.T) { // P12.4
	v := New()
	put(t, v, 0, frame(7), api.OK)
	put(t, v, 1, frame(7), api.OK)
	put(t, v, 0, frame(8), api.OK)
	v.Stop()
	shows(t, v, Frame{})
	if !v.Stopped() || v.Last() != 7 {
		t.Error("stopped")
	}
	v.Reset()
	shows(t, v, Frame{})
	if v.Stopped() || v.Last() != 7 || v.End() != api.OK {
		t.Error("reset")
	}
	put(t, v, 1, frame(7), api.ErrStop)
	v.Reset()
	put(t, v, 0, frame(8), api.OK)
	v.Reset()
	if v.End() != api.OK {
		t.Error("a place isn't empty behind Reset")
	}
	put(t, v, 0, frame(9), api.OK)
	put(t, v, 1, frame(9), api.OK)
	v.Reset()
	shows(t, v, Frame{})
}

func TestTells(t *testing.T) { // P12.5
	v := New()
	put(t, v, 0, frame(1<<62), api.OK)
	if v.Last() != 0 {
		t.Error("it was not shown yet")
	}
	put(t, v, 1, frame(1<<62), api.OK)
	if v.Last() != 1<<62 || v.Stopped() {
		t.Error("Last", v.Last())
	}
}

func TestWhatFollows(t *testing.T) { // P12.6
	r := rand.New(rand.NewSource(1))
	for range 300 {
		v := New()
		var put [2]map[Frame]bool
		put[0], put[1] = map[Frame]bool{}, map[Frame]bool{}
		stopped, last := false, int64(0)
		for range 40 {
			switch r.Intn(12) {
			case 0:
				v.Reset()
				stopped = false
			case 1:
				stopped = v.End() != api.OK
			default:
				f, channel := frame(last+int64(r.Intn(3))), r.Intn(2)
				put[channel][f] = true
				if v.Put(channel, f) != api.OK {
					stopped = true
				}
			}
			f, ok := v.Shown()
			if ok && (stopped || !put[0][f] || !put[1][f] || f.Cycle < last) || stopped != v.Stopped() {
				t.Fatal(f, stopped)
			}
			if ok {
				last = f.Cycle
			}
			if v.Last() != last {
				t.Fatal("Last", v.Last(), last)
			}
		}
	}
}
