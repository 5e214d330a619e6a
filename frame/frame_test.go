package frame

import (
	"bytes"
	"encoding/binary"
	"hash/crc32"
	"math/rand"
	"reflect"
	"testing"

	"semaphore/api"
)

// sealed tells bytes with their check behind.
func sealed(b ...byte) []byte { return binary.BigEndian.AppendUint32(b, crc32.ChecksumIEEE(b)) }

func long(n uint64) []byte { return binary.BigEndian.AppendUint64(nil, n) }
func word(n uint32) []byte { return binary.BigEndian.AppendUint32(nil, n) }

func join(parts ...[]byte) []byte { return bytes.Join(parts, nil) }

func state() api.State {
	s := api.State{Locked: 1, Used: 2, Cancelled: 3, Points: 4}
	for i := range s.Timers {
		s.Timers[i] = uint8(i + 7)
	}
	return s
}

func stateFields() []byte {
	s := state()
	return join(long(1), long(2), long(3), s.Timers[:], word(4))
}

func commands(c ...api.Command) api.Input { return api.Input{Commands: c} }

func TestOut(t *testing.T) { // P13.1, P13.2
	x := Out{Channel: 1, Cycle: 2, Epoch: 3, Output: api.Output{Proceed: 4, Points: 5}}
	want := sealed(join([]byte{2, 1}, long(2), long(3), long(4), word(5))...)
	if b := PutOut(x); !bytes.Equal(b, want) || len(b) != 34 {
		t.Errorf("% X", b)
	}
	if got, err := GetOut(want); err != api.OK || got != x {
		t.Error(got, err)
	}
	for _, x := range []Out{{Cycle: -1}, {Epoch: -1}, {Cycle: api.MaxCycle + 1}, {Epoch: api.MaxCycle + 1}, {Epoch: -1 << 63}} {
		if PutOut(x) != nil {
			t.Error("it may not be:", x)
		}
	}
	if PutOut(Out{Cycle: api.MaxCycle, Epoch: api.MaxCycle, Channel: 255}) == nil {
		t.Error("the greatest numbers")
	}
}

func TestIn(t *testing.T) { // P13.1, P13.2
	if b := PutIn(In{}); !bytes.Equal(b, sealed(append([]byte{1}, make([]byte, 26)...)...)) || len(b) != 31 {
		t.Errorf("without commands: % X", b)
	}
	x := In{Channel: 200, Cycle: api.MaxCycle, Input: api.Input{Occupied: 1 << 63, Normal: 7, Reverse: 1 << 31, Commands: []api.Command{{Kind: 1, N: 63}, {Kind: 2, N: 0}, {Kind: 3, N: 5}}}}
	want := sealed(join([]byte{1, 200}, long(api.MaxCycle), long(1<<63), word(7), word(1<<31), []byte{3, 1, 63, 2, 0, 3, 5})...)
	if b := PutIn(x); !bytes.Equal(b, want) || len(b) != 37 {
		t.Errorf("% X", b)
	}
	if got, err := GetIn(want); err != api.OK || !reflect.DeepEqual(got, x) {
		t.Error(got, err)
	}
	eight := make([]api.Command, 8)
	for i := range eight {
		eight[i].Kind = 3
	}
	if b := PutIn(In{Input: commands(eight...)}); len(b) != 31+16 || Kind(b) != 1 {
		t.Error("eight commands", len(b))
	}
	for _, x := range []In{
		{Cycle: -1}, {Cycle: api.MaxCycle + 1}, {Input: commands(api.Command{Kind: 0})}, {Input: commands(api.Command{Kind: 4})}, {Input: commands(api.Command{Kind: 255})},
		{Input: commands(api.Command{Kind: 1, N: 64})}, {Input: commands(api.Command{Kind: 1, N: -1})}, {Input: commands(api.Command{Kind: 1, N: 256})}, {Input: commands(api.Command{Kind: 1, N: 1 << 62})},
		{Input: commands(append(eight, api.Command{Kind: 1})...)},
	} {
		if PutIn(x) != nil {
			t.Error("it may not be:", x)
		}
	}
}

func TestStateAndLog(t *testing.T) { // P13.1, P13.2
	want := sealed(join([]byte{3}, stateFields())...)
	if b := PutState(state()); !bytes.Equal(b, want) || len(b) != 97 {
		t.Errorf("% X", b)
	}
	if got, err := GetState(want); err != api.OK || got != state() {
		t.Error(got, err)
	}
	x := Log{Epoch: 9, Cycle: api.MaxCycle, State: state()}
	want = sealed(join([]byte{4}, long(9), long(api.MaxCycle), stateFields())...)
	if b := PutLog(x); !bytes.Equal(b, want) || len(b) != 113 {
		t.Errorf("% X", b)
	}
	if got, err := GetLog(want); err != api.OK || got != x {
		t.Error(got, err)
	}
	for _, x := range []Log{{Epoch: -1}, {Cycle: -1}, {Epoch: api.MaxCycle + 1}, {Cycle: api.MaxCycle + 1}} {
		if PutLog(x) != nil {
			t.Error("it may not be:", x)
		}
	}
}

func TestLink(t *testing.T) { // P13.1, P13.2
	x := Link{From: 1, To: 255, Seq: 1 << 62, Ack: 7, B: []byte{9, 8, 7}}
	want := sealed(join([]byte{5, 1, 255}, long(1<<62), long(7), []byte{0, 3, 9, 8, 7})...)
	if b := PutLink(x); !bytes.Equal(b, want) {
		t.Errorf("% X", b)
	}
	if got, err := GetLink(want); err != api.OK || !reflect.DeepEqual(got, x) {
		t.Error(got, err)
	}
	if b := PutLink(Link{}); len(b) != 25 {
		t.Errorf("without bytes: % X", b)
	} else if got, err := GetLink(b); err != api.OK || len(got.B) != 0 {
		t.Error(got, err)
	}
	if got, err := GetLink(PutLink(Link{B: make([]byte, MaxPayload)})); err != api.OK || len(got.B) != MaxPayload {
		t.Error("as many bytes as may be", err)
	}
	for _, x := range []Link{{Seq: -1}, {Ack: -1}, {Seq: 1<<62 + 1}, {Ack: 1<<63 - 1}, {B: make([]byte, MaxPayload+1)}, {B: make([]byte, 1<<16+1)}} {
		if PutLink(x) != nil {
			t.Error("it may not be:", x.Seq, x.Ack, len(x.B))
		}
	}
}

// wrong are bytes with a right check that are no frames all the same.
func wrong() [][]byte {
	all := [][]byte{nil, {}, {1}, {1, 2, 3, 4}, sealed(), sealed(0), sealed(1), sealed(3), sealed(6), sealed(255), make([]byte, 31)}
	in := func(cycle uint64, rest ...byte) {
		all = append(all, sealed(join([]byte{1, 0}, long(cycle), make([]byte, 16), rest)...))
	}
	in(api.MaxCycle+1, 0)
	in(1<<63, 0)
	in(0, 1)
	in(0, 1, 1)
	in(0, 0, 1)
	in(0, 1, 0, 0)
	in(0, 1, 4, 0)
	in(0, 1, 1, 64)
	in(0, append([]byte{9}, bytes.Repeat([]byte{1, 1}, 9)...)...)
	in(0, append([]byte{255}, bytes.Repeat([]byte{1, 1}, 255)...)...)
	all = append(all,
		sealed(join([]byte{2, 1}, long(api.MaxCycle+1), long(3), long(4), word(5))...), sealed(join([]byte{2, 1}, long(2), long(1<<63), long(4), word(5))...),
		sealed(join([]byte{4}, long(api.MaxCycle+1), long(0), stateFields())...), sealed(join([]byte{4}, long(0), long(1<<64-1), stateFields())...),
		sealed(join([]byte{5, 1, 2}, long(1<<62+1), long(0), []byte{0, 0})...), sealed(join([]byte{5, 1, 2}, long(1), long(1<<63), []byte{0, 0})...),
		sealed(join([]byte{5, 1, 2}, long(1), long(0), []byte{0, 1})...), sealed(join([]byte{5, 1, 2}, long(1), long(0), []byte{0, 1, 2, 3})...),
		sealed(join([]byte{5, 1, 2}, long(1), long(0), []byte{8, 1}, make([]byte, MaxPayload+1))...))
	return all
}

// none fails, if b is got as a frame.
func none(t *testing.T, b []byte) {
	t.Helper()
	in, err1 := GetIn(b)
	out, err2 := GetOut(b)
	s, err3 := GetState(b)
	l, err4 := GetLog(b)
	m, err5 := GetLink(b)
	for _, err := range []api.Errno{err1, err2, err3, err4, err5} {
		if err != api.ErrFrame {
			t.Errorf("% X: %d", b, err)
		}
	}
	if !reflect.DeepEqual(in, In{}) || out != (Out{}) || s != (api.State{}) || l != (Log{}) || !reflect.DeepEqual(m, Link{}) || Kind(b) != 0 {
		t.Errorf("% X has something", b)
	}
}

func TestNoFrames(t *testing.T) { // P13.2, P13.3
	for _, b := range wrong() {
		none(t, b)
	}
}

// each is a frame of each kind, by kind.
func each() [6][]byte {
	return [6][]byte{
		1: PutIn(In{Channel: 1, Cycle: 2, Input: commands(api.Command{Kind: 3, N: 9})}), 2: PutOut(Out{Epoch: 4}), 3: PutState(state()),
		4: PutLog(Log{Epoch: 1, State: state()}), 5: PutLink(Link{From: 3, B: []byte("abc")}),
	}
}

func TestKind(t *testing.T) { // P13.2, P13.3
	for kind, b := range each() {
		if got := Kind(b); got != uint8(kind) {
			t.Error(kind, got)
		}
		_, err1 := GetIn(b)
		_, err2 := GetOut(b)
		_, err3 := GetState(b)
		_, err4 := GetLog(b)
		_, err5 := GetLink(b)
		for i, err := range []api.Errno{err1, err2, err3, err4, err5} {
			if (err == api.OK) != (i+1 == kind) || err != api.OK && err != api.ErrFrame {
				t.Error("a frame of the kind", kind, "as one of", i+1, err)
			}
		}
	}
}

func TestMemory(t *testing.T) { // P13.4
	in := append(make([]api.Command, 0, 4), api.Command{Kind: 1})
	payload := append(make([]byte, 0, 9), 1, 2)
	PutIn(In{Input: commands(in...)})
	b := PutLink(Link{B: payload})
	before := bytes.Clone(b)
	got, _ := GetLink(b)
	got.B[0] = 99
	_ = append(got.B, 55, 55, 55, 55)
	payload[0] = 77
	if !bytes.Equal(b, before) || payload[:3][2] != 0 {
		t.Error("something is shared")
	}
}

func TestGotAsPut(t *testing.T) { // P13.5
	r := rand.New(rand.NewSource(1))
	seen := map[string]In{}
	for range 3000 {
		x := In{Channel: uint8(r.Intn(2)), Cycle: int64(r.Intn(3)), Input: api.Input{Occupied: uint64(r.Intn(3)), Normal: uint32(r.Intn(2)), Reverse: uint32(r.Intn(2))}}
		for range r.Intn(3) {
			x.Input.Commands = append(x.Input.Commands, api.Command{Kind: uint8(1 + r.Intn(3)), N: r.Intn(2)})
		}
		b := PutIn(x)
		got, err := GetIn(b)
		if err != api.OK || !reflect.DeepEqual(got, x) || !bytes.Equal(PutIn(got), b) {
			t.Fatal(x, got, err)
		}
		if other, ok := seen[string(b)]; ok && !reflect.DeepEqual(other, x) {
			t.Fatal("unlike ones have one frame", x, other)
		}
		seen[string(b)] = x
		out := Out{Channel: uint8(r.Int()), Cycle: r.Int63n(api.MaxCycle + 1), Epoch: r.Int63n(api.MaxCycle + 1), Output: api.Output{Proceed: r.Uint64(), Points: r.Uint32()}}
		if got, err := GetOut(PutOut(out)); err != api.OK || got != out {
			t.Fatal(out, got, err)
		}
	}
}

func TestSpoiltFrames(t *testing.T) { // P13.5
	r := rand.New(rand.NewSource(2))
	for _, b := range each() {
		if b == nil {
			continue
		}
		none(t, b[:len(b)-1])
		none(t, b[1:])
		for _, x := range []byte{0, 1, 255} {
			none(t, append(bytes.Clone(b), x))
			none(t, append([]byte{x}, b...))
		}
		for range 300 {
			first, end := 0, len(b)*8-32
			if r.Intn(3) == 0 {
				first, end = end, len(b)*8
			}
			spoilt := bytes.Clone(b)
			at := first + r.Intn(end-first)
			for i := range min(32, end-at) {
				if i == 0 || r.Intn(2) == 0 {
					spoilt[(at+i)/8] ^= 1 << ((at + i) % 8)
				}
			}
			none(t, spoilt)
		}
	}
}
