package repl

import (
	"bytes"
	"encoding/binary"
	"math/rand"
	"reflect"
	"testing"

	"semaphore/api"
	"semaphore/frame"
)

const top = api.MaxCycle

func record(epoch, cycle int64, locked uint64) frame.Log {
	return frame.Log{Epoch: epoch, Cycle: cycle, State: api.State{Locked: locked}}
}

func whole(x frame.Log) Message {
	return Message{Kind: Whole, Epoch: x.Epoch, Cycle: x.Cycle, State: x.State}
}

func part(epoch, cycle, baseEpoch, base int64, locked uint64) Message {
	return Message{Kind: Part, Epoch: epoch, Cycle: cycle, BaseEpoch: baseEpoch, Base: base, Delta: Delta{Locked: locked}}
}

func ack(epoch, cycle int64) Message { return Message{Kind: Ack, Epoch: epoch, Cycle: cycle} }

func anyState(r *rand.Rand) api.State {
	s := api.State{Locked: r.Uint64(), Used: r.Uint64(), Cancelled: r.Uint64(), Points: r.Uint32()}
	for i := range s.Timers {
		s.Timers[i] = uint8(r.Intn(3))
	}
	return s
}

func TestDiffAndPatch(t *testing.T) { // P25.1
	a := api.State{Locked: 3, Used: 1, Cancelled: 2, Points: 4}
	b := api.State{Locked: 6, Used: 1, Cancelled: 3, Points: 5}
	a.Timers[2], b.Timers[2], b.Timers[63], a.Timers[0], b.Timers[1], a.Timers[1] = 7, 7, 9, 5, 2, 3
	want := Delta{Locked: 5, Cancelled: 1, Points: 1, Timers: []Timer{{0, 0}, {1, 2}, {63, 9}}}
	if d := Diff(a, b); !reflect.DeepEqual(d, want) {
		t.Error(d)
	}
	if got, err := Patch(a, want); err != api.OK || got != b {
		t.Error(got, err)
	}
	if d := Diff(a, a); !reflect.DeepEqual(d, Delta{}) {
		t.Error("of one state", d)
	}
	for _, timers := range [][]Timer{{{-1, 0}}, {{64, 0}}, {{3, 0}, {3, 0}}, {{3, 0}, {2, 0}}, {{1 << 62, 0}}, {{-1 << 63, 0}}, make([]Timer, 65)} {
		if got, err := Patch(a, Delta{Locked: 1, Timers: timers}); err != api.ErrArg || got != (api.State{}) {
			t.Error(timers, got, err)
		}
	}
}

func eight(n uint64) []byte { return binary.BigEndian.AppendUint64(nil, n) }

func join(parts ...[]byte) []byte { return bytes.Join(parts, nil) }

// head tells the first bytes of a message.
func head(kind byte, epoch, cycle, baseEpoch, base uint64) []byte {
	return join([]byte{kind}, eight(epoch), eight(cycle), eight(baseEpoch), eight(base))
}

func TestPutAndGet(t *testing.T) { // P25.2
	s := anyState(rand.New(rand.NewSource(1)))
	d := Delta{Locked: 1, Used: 2, Cancelled: 3, Points: 4, Timers: []Timer{{0, 255}, {63, 1}}}
	rest := join(eight(1), eight(2), eight(3), []byte{0, 0, 0, 4, 2, 0, 255, 63, 1})
	for name, c := range map[string]struct {
		m Message
		b []byte
	}{
		"whole": {Message{Kind: Whole, Epoch: 1, Cycle: top, State: s}, join(head(1, 1, top, 0, 0), frame.PutState(s))},
		"part":  {Message{Kind: Part, Epoch: 9, Cycle: 8, BaseEpoch: top, Base: 6, Delta: d}, join(head(2, 9, 8, top, 6), rest)},
		"empty": {Message{Kind: Part}, join(head(2, 0, 0, 0, 0), make([]byte, 29))},
		"ack":   {ack(4, 5), head(3, 4, 5, 0, 0)},
		"want":  {Message{Kind: Want}, head(4, 0, 0, 0, 0)},
	} {
		if b := Put(c.m); !bytes.Equal(b, c.b) {
			t.Errorf("%s: % X", name, b)
		}
		if m, err := Get(c.b); err != api.OK || !reflect.DeepEqual(m, c.m) {
			t.Error(name, m, err)
		}
		for _, b := range [][]byte{c.b[:len(c.b)-1], append(bytes.Clone(c.b), 0), c.b[1:]} {
			if m, err := Get(b); err != api.ErrFrame || !reflect.DeepEqual(m, Message{}) {
				t.Error(name, "not as long as it is", m, err)
			}
		}
	}
	if b := Put(Message{Kind: Ack, Epoch: 1, State: s, Delta: d, Base: 3}); !bytes.Equal(b, head(3, 1, 0, 0, 3)) {
		t.Errorf("more than its kind has: % X", b)
	}
}

func TestPutWrong(t *testing.T) { // P25.2
	for _, m := range []Message{{}, {Kind: 5}, {Kind: 255}, {Kind: Whole, Epoch: -1}, {Kind: Whole, Cycle: top + 1}, {Kind: Part, BaseEpoch: -1}, {Kind: Part, Base: 1 << 62}, {Kind: Ack, Cycle: -1 << 63}, {Kind: Want, Epoch: top + 1}, {Kind: Part, Delta: Delta{Timers: []Timer{{64, 0}}}}, {Kind: Want, Delta: Delta{Timers: []Timer{{1, 0}, {1, 0}}}}} {
		if b := Put(m); len(b) > 0 {
			t.Error("it may not be", m)
		}
	}
}

func TestGetWrong(t *testing.T) { // P25.2
	state := frame.PutState(api.State{Locked: 1})
	spoilt := bytes.Clone(state)
	spoilt[9] ^= 1
	delta := func(timers ...byte) []byte { return join(make([]byte, 28), timers) }
	for name, b := range map[string][]byte{
		"nothing": nil, "kind 0": head(0, 0, 0, 0, 0), "kind 5": head(5, 0, 0, 0, 0), "short": {3},
		"past MaxCycle": head(3, top+1, 0, 0, 0), "below 0": head(3, 0, 1<<63, 0, 0), "a base past it": join(head(2, 1, 1, 1, top+1), delta(0)),
		"a whole one's base": join(head(1, 1, 1, 0, 1), state), "its base's epoch": join(head(1, 1, 1, 1, 0), state), "a spoilt state": join(head(1, 1, 1, 0, 0), spoilt), "no state": head(1, 1, 1, 0, 0),
		"an ack's base": head(3, 1, 1, 0, 1), "an ack's base's epoch": head(3, 1, 1, 1, 0), "a want's epoch": head(4, 1, 0, 0, 0), "a want's cycle": head(4, 0, 1, 0, 0), "a want's base": head(4, 0, 0, 0, 1),
		"timers fall": join(head(2, 1, 1, 0, 0), delta(2, 5, 0, 4, 0)), "timers alike": join(head(2, 1, 1, 0, 0), delta(2, 5, 0, 5, 0)), "no route": join(head(2, 1, 1, 0, 0), delta(1, 64, 0)), "fewer timers": join(head(2, 1, 1, 0, 0), delta(2, 5, 0)), "more timers": join(head(2, 1, 1, 0, 0), delta(0, 5, 0)),
	} {
		if m, err := Get(b); err != api.ErrFrame || !reflect.DeepEqual(m, Message{}) {
			t.Error(name, m, err)
		}
	}
}

func offer(t *testing.T, s *Sender, x frame.Log, want api.Errno) {
	t.Helper()
	if err := s.Offer(x); err != want {
		t.Error("Offer", x.Epoch, x.Cycle, err)
	}
}

// sends fails, unless the sender sends that; of kind 0: nothing.
func sends(t *testing.T, s *Sender, want Message) {
	t.Helper()
	if m, ok := s.Send(); ok != (want.Kind > 0) || !reflect.DeepEqual(m, want) {
		t.Error("sends", m, ok, "not", want)
	}
}

func hears(t *testing.T, s *Sender, m Message, want api.Errno) {
	t.Helper()
	if err := s.Hear(m); err != want {
		t.Error("Hear", m, err)
	}
}

// based fails, unless that is the base; of epoch 0: none.
func based(t *testing.T, s *Sender, want frame.Log) {
	t.Helper()
	if x, ok := s.Acked(); x != want || ok != (want.Epoch > 0) {
		t.Error("the base", x.Epoch, x.Cycle, ok)
	}
}

func TestSender(t *testing.T) { // P25.3
	var s Sender
	sends(t, &s, Message{})
	based(t, &s, frame.Log{})
	hears(t, &s, ack(1, 1), api.OK)
	hears(t, &s, Message{Kind: Want}, api.OK)
	for _, x := range []frame.Log{record(-1, 0, 0), record(0, -1, 0), record(top+1, 0, 0), record(0, top+1, 0)} {
		offer(t, &s, x, api.ErrArg)
	}
	offer(t, &s, record(1, 5, 3), api.OK)
	for _, x := range []frame.Log{record(1, 5, 3), record(1, 4, 9), record(0, 9, 9)} {
		offer(t, &s, x, api.ErrArg)
	}
	sends(t, &s, whole(record(1, 5, 3)))
	sends(t, &s, whole(record(1, 5, 3)))
	hears(t, &s, ack(1, 5), api.OK)
	based(t, &s, record(1, 5, 3))
	sends(t, &s, Message{})
	offer(t, &s, record(1, 6, 7), api.OK)
	sends(t, &s, part(1, 6, 1, 5, 4))
	offer(t, &s, record(2, 1, 1), api.OK)
	sends(t, &s, part(2, 1, 1, 5, 2))
	for _, m := range []Message{ack(1, 7), ack(9, 9), ack(0, 0), ack(1, 4)} {
		hears(t, &s, m, api.OK)
	}
	based(t, &s, record(1, 5, 3))
	hears(t, &s, ack(2, 1), api.OK)
	hears(t, &s, ack(1, 6), api.OK)
	based(t, &s, record(2, 1, 1))
	sends(t, &s, Message{})
	hears(t, &s, Message{Kind: Want}, api.OK)
	based(t, &s, frame.Log{})
	sends(t, &s, whole(record(2, 1, 1)))
	for _, m := range []Message{{}, whole(record(1, 1, 1)), {Kind: Part}, {Kind: 5}, ack(-1, 1), ack(1, top+1), {Kind: Want, Delta: Delta{Timers: []Timer{{-1, 0}}}}} {
		hears(t, &s, m, api.ErrArg)
	}
	hears(t, &s, ack(1, 5), api.OK)
	based(t, &s, record(1, 5, 3))
}

func TestKeep(t *testing.T) { // P25.3
	var s Sender
	for i := range int64(Keep) {
		offer(t, &s, record(1, i, uint64(i)), api.OK)
	}
	hears(t, &s, ack(1, 0), api.OK)
	based(t, &s, record(1, 0, 0))
	offer(t, &s, record(1, 8, 8), api.OK)
	based(t, &s, frame.Log{})
	sends(t, &s, whole(record(1, 8, 8)))
	hears(t, &s, ack(1, 0), api.OK)
	based(t, &s, frame.Log{})
	hears(t, &s, ack(1, 2), api.OK)
	offer(t, &s, record(1, 9, 9), api.OK)
	based(t, &s, record(1, 2, 2))
	sends(t, &s, part(1, 9, 1, 2, 11))
	offer(t, &s, record(1, 10, 9), api.OK)
	based(t, &s, frame.Log{})
}

// answers fails, unless the receiver answers that, and has that then.
func answers(t *testing.T, r *Receiver, m, want Message, fresh bool, has frame.Log) {
	t.Helper()
	got, ok, err := r.Hear(m)
	if err != api.OK || ok != fresh || !reflect.DeepEqual(got, want) {
		t.Error(m, "answered", got, ok, err)
	}
	if x, ok := r.Has(); x != has || ok != (has.Epoch > 0) {
		t.Error("it has", x, ok)
	}
}

func TestReceiver(t *testing.T) { // P25.4
	var r Receiver
	want := Message{Kind: Want}
	answers(t, &r, part(1, 6, 1, 5, 4), want, false, frame.Log{})
	answers(t, &r, part(1, 6, 0, 0, 4), want, false, frame.Log{})
	answers(t, &r, whole(record(1, 5, 3)), ack(1, 5), true, record(1, 5, 3))
	answers(t, &r, whole(record(1, 5, 9)), ack(1, 5), false, record(1, 5, 3))
	answers(t, &r, whole(record(1, 4, 9)), ack(1, 5), false, record(1, 5, 3))
	answers(t, &r, whole(record(0, 9, 9)), ack(1, 5), false, record(1, 5, 3))
	answers(t, &r, part(1, 5, 1, 5, 9), ack(1, 5), false, record(1, 5, 3))
	answers(t, &r, part(1, 7, 1, 6, 4), want, false, record(1, 5, 3))
	answers(t, &r, part(1, 7, 0, 5, 4), want, false, record(1, 5, 3))
	answers(t, &r, part(1, 7, 1, 5, 4), ack(1, 7), true, record(1, 7, 7))
	answers(t, &r, whole(record(2, 0, 1)), ack(2, 0), true, record(2, 0, 1))
	for _, m := range []Message{{}, ack(3, 3), want, {Kind: 5}, whole(record(-1, 1, 1)), whole(record(3, top+1, 1)), part(3, 3, 2, -1, 1), {Kind: Part, Epoch: 3, BaseEpoch: 2, Delta: Delta{Timers: []Timer{{2, 0}, {1, 0}}}}} {
		if got, ok, err := r.Hear(m); err != api.ErrArg || ok || !reflect.DeepEqual(got, Message{}) {
			t.Error(m, got, ok, err)
		}
	}
	for _, x := range []frame.Log{record(-1, 0, 0), record(0, -1, 0), record(top+1, 0, 0), record(0, top+1, 0)} {
		if r.Begin(x) != api.ErrArg {
			t.Error("Begin", x)
		}
	}
	if x, ok := r.Has(); !ok || x != record(2, 0, 1) {
		t.Error("it has", x)
	}
	if r.Begin(record(1, 2, 4)) != api.OK {
		t.Error("Begin with an earlier one")
	}
	answers(t, &r, part(1, 3, 1, 2, 1), ack(1, 3), true, record(1, 3, 5))
}

func TestNil(t *testing.T) { // P25.5
	var s *Sender
	var r *Receiver
	offer(t, s, record(1, 1, 1), api.ErrNil)
	hears(t, s, Message{}, api.ErrNil)
	sends(t, s, Message{})
	based(t, s, frame.Log{})
	m, ok, err := r.Hear(Message{})
	x, has := r.Has()
	if ok || has || err != api.ErrNil || r.Begin(record(-1, 0, 0)) != api.ErrNil || !reflect.DeepEqual(m, Message{}) || x != (frame.Log{}) {
		t.Error("a nil receiver")
	}
}

func TestMemory(t *testing.T) { // P25.5
	timers := append(make([]Timer, 0, 4), Timer{1, 2})
	var r Receiver
	r.Begin(record(1, 1, 0))
	r.Hear(Message{Kind: Part, Epoch: 1, Cycle: 2, BaseEpoch: 1, Base: 1, Delta: Delta{Timers: timers}})
	timers[0].Value = 9
	if x, _ := r.Has(); x.State.Timers[1] != 2 {
		t.Error("what was handed in is kept")
	}
	var s Sender
	s.Offer(record(1, 1, 0))
	s.Hear(ack(1, 1))
	next := record(1, 2, 0)
	next.State.Timers[3] = 4
	s.Offer(next)
	a, _ := s.Send()
	a.Delta.Timers[0].Value = 9
	if b, _ := s.Send(); b.Delta.Timers[0].Value != 4 || timers[:2][1] != (Timer{}) {
		t.Error("answers are shared")
	}
}

func TestWhatFollows(t *testing.T) { // P25.6
	rnd := rand.New(rand.NewSource(1))
	for range 300 {
		a, b := anyState(rnd), anyState(rnd)
		if got, err := Patch(a, Diff(a, b)); err != api.OK || got != b {
			t.Fatal("Patch of Diff", got, err)
		}
		var s Sender
		var r Receiver
		var there, back []Message
		offered := map[[2]int64]frame.Log{}
		last, has := frame.Log{Epoch: 1, State: a}, frame.Log{}
		for range 100 {
			switch rnd.Intn(6) {
			case 0, 1:
				last.Cycle++
				if rnd.Intn(9) == 0 {
					last.Epoch, last.Cycle = last.Epoch+1, 0
				}
				last.State.Locked ^= 1 << rnd.Intn(64)
				last.State.Timers[rnd.Intn(64)]++
				offer(t, &s, last, api.OK)
				offered[[2]int64{last.Epoch, last.Cycle}] = last
			case 2, 3:
				if m, ok := s.Send(); ok {
					there = append(there, m)
				}
			case 4:
				if len(there) > 0 {
					m, _ := Get(Put(there[rnd.Intn(len(there))]))
					answer, _, err := r.Hear(m)
					if err != api.OK {
						t.Fatal(err)
					}
					back = append(back, answer)
				}
			default:
				if len(back) > 0 {
					hears(t, &s, back[rnd.Intn(len(back))], api.OK)
				}
			}
			if x, ok := r.Has(); ok {
				if order(x, has) < 0 || offered[[2]int64{x.Epoch, x.Cycle}] != x {
					t.Fatal("it has what was not offered, or an earlier one", x)
				}
				has = x
			}
		}
		for range 2 {
			if m, ok := s.Send(); ok {
				answer, _, _ := r.Hear(m)
				s.Hear(answer)
			}
		}
		if x, ok := r.Has(); len(offered) > 0 && (!ok || x != last) {
			t.Fatal("it has not the latest one", x.Epoch, x.Cycle, last.Epoch, last.Cycle)
		}
	}
}
