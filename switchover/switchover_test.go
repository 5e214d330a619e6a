package switchover

import (
	"math/rand"
	"testing"

	"semaphore/api"
	"semaphore/lease"
)

const top = api.MaxCycle

func made(t *testing.T, pair int) *Switch {
	t.Helper()
	s, err := New(pair)
	if err != api.OK {
		t.Fatal(err)
	}
	return s
}

// active is a switch that leads in an epoch until a time.
func active(t *testing.T, epoch, until int64) *Switch {
	t.Helper()
	s := made(t, 0)
	granted(t, s, epoch, until, api.OK)
	return s
}

func granted(t *testing.T, s *Switch, epoch, until int64, want api.Errno) {
	t.Helper()
	if err := s.Granted(lease.Grant{Epoch: epoch, Until: until}); err != want {
		t.Error("Granted", epoch, until, err)
	}
}

func is(t *testing.T, s *Switch, role uint8, epoch, known int64) {
	t.Helper()
	if s.Role() != role || s.Epoch() != epoch || s.Known() != known {
		t.Error("it is", s.Role(), s.Epoch(), s.Known(), "not", role, epoch, known)
	}
}

func wants(t *testing.T, got, want uint8) {
	t.Helper()
	if got != want {
		t.Error("it wants", got, "not", want)
	}
}

// quiet fails, unless a standby asks behind so many ticks more.
func quiet(t *testing.T, s *Switch, ticks int) {
	t.Helper()
	for i := range ticks {
		want := None
		if i == ticks-1 {
			want = Ask
		}
		if got := s.Tick(0); got != want {
			t.Error("at the tick", i+1, "it wants", got)
		}
	}
}

func TestNew(t *testing.T) { // P26.1
	for _, pair := range []int{-1, 2, 1 << 62} {
		if s, err := New(pair); err != api.ErrArg || s != nil {
			t.Error(pair, err)
		}
	}
	for pair := range 2 {
		s := made(t, pair)
		is(t, s, Standby, 0, 0)
		if s.Pair != pair || s.Holds(0) {
			t.Error("at first")
		}
	}
}

func TestExample(t *testing.T) { // P26.2, P26.3
	s := made(t, 0)
	quiet(t, s, 5)
	quiet(t, s, 5)
	granted(t, s, 1, 13, api.OK)
	is(t, s, Active, 1, 1)
	wants(t, s.Tick(5), None)
	wants(t, s.Tick(9), Renew)
	wants(t, s.Tick(12), Demote)
	is(t, s, Standby, 1, 1)
	quiet(t, s, 5)
}

func TestTick(t *testing.T) { // P26.2
	for _, c := range []struct {
		until, now int64
		want       uint8
	}{
		{20, 0, None}, {20, 15, None}, {20, 16, Renew}, {20, 18, Renew}, {20, 19, Demote}, {20, -1, Demote}, {20, top + 1, Demote}, {20, -1 << 63, Demote}, {20, 1<<63 - 1, Demote},
		{top + 8, top, None}, {top + 8, -1, None}, {top + 8, 1<<63 - 1, None}, {top + 4, -1, Renew}, {top + 2, top, Renew}, {top + 1, top, Demote}, {1, 0, Demote}, {2, 0, Renew},
	} {
		s := active(t, 3, c.until)
		wants(t, s.Tick(c.now), c.want)
		if (s.Role() == Standby) != (c.want == Demote) {
			t.Error("the role", c)
		}
	}
	s := made(t, 1)
	s.Tick(0)
	s.Tick(-5)
	s.Tick(1 << 62)
	quiet(t, s, 2)
}

func TestGranted(t *testing.T) { // P26.3
	s := made(t, 0)
	for _, epoch := range []int64{0, -1, top + 1, -1 << 63} {
		granted(t, s, epoch, 5, api.ErrArg)
	}
	granted(t, s, 1, -1, api.ErrArg)
	granted(t, s, 1, top+lease.Term+1, api.ErrArg)
	s.Tick(0)
	s.Tick(0)
	granted(t, s, 5, 20, api.OK)
	is(t, s, Active, 5, 5)
	granted(t, s, 4, 99, api.ErrEpoch)
	granted(t, s, 5, 30, api.OK)
	granted(t, s, 5, 25, api.OK)
	if !s.Holds(28) || s.Holds(29) {
		t.Error("not the later until")
	}
	wants(t, s.Refused(), Demote)
	granted(t, s, 5, 99, api.ErrState)
	is(t, s, Standby, 5, 5)
	wants(t, s.Beat(9), None)
	granted(t, s, 8, 99, api.ErrEpoch)
	is(t, s, Standby, 5, 9)
	granted(t, s, 9, 99, api.OK)
	is(t, s, Active, 9, 9)
	granted(t, s, top, 3, api.OK)
	is(t, s, Active, top, top)
	if s.Holds(2) || !s.Holds(1) {
		t.Error("the until of the greater epoch")
	}
	s = made(t, 0)
	wants(t, s.Tick(0), None)
	granted(t, s, 1, 9, api.OK)
	wants(t, s.Refused(), Demote)
	quiet(t, s, 5)
}

func TestRefused(t *testing.T) { // P26.3
	s := made(t, 0)
	s.Tick(0)
	wants(t, s.Refused(), None)
	quiet(t, s, 4)
	s = active(t, 2, 50)
	wants(t, s.Refused(), Demote)
	wants(t, s.Refused(), None)
	is(t, s, Standby, 2, 2)
}

func TestBeat(t *testing.T) { // P26.4
	s := made(t, 0)
	for range 4 {
		s.Tick(0)
	}
	for _, epoch := range []int64{0, -1, top + 1, -1 << 63} {
		wants(t, s.Beat(epoch), None)
	}
	is(t, s, Standby, 0, 0)
	quiet(t, s, 1)
	for range 4 {
		s.Tick(0)
	}
	wants(t, s.Beat(1), None)
	is(t, s, Standby, 0, 1)
	for range 4 {
		s.Tick(0)
	}
	wants(t, s.Beat(3), None)
	is(t, s, Standby, 0, 3)
	for range 4 {
		s.Tick(0)
	}
	wants(t, s.Beat(2), None)
	is(t, s, Standby, 0, 3)
	quiet(t, s, 1)
	for range 4 {
		s.Tick(0)
	}
	wants(t, s.Beat(3), None)
	quiet(t, s, 5)
	s = active(t, 5, 50)
	wants(t, s.Beat(4), None)
	wants(t, s.Beat(5), None)
	is(t, s, Active, 5, 5)
	wants(t, s.Beat(6), Demote)
	is(t, s, Standby, 5, 6)
	wants(t, s.Beat(top), None)
	is(t, s, Standby, 5, top)
}

func TestHoldsAndNil(t *testing.T) { // P26.5
	s := active(t, 1, 13)
	if !s.Holds(11) || s.Holds(12) || !s.Holds(-9) {
		t.Error("Holds")
	}
	s.Refused()
	if s.Holds(0) {
		t.Error("a standby holds")
	}
	var none *Switch
	wants(t, none.Tick(1), None)
	wants(t, none.Refused(), None)
	wants(t, none.Beat(1), None)
	granted(t, none, 0, 0, api.ErrNil)
	is(t, none, 0, 0, 0)
	if none.Holds(0) {
		t.Error("a nil one holds")
	}
}

func TestWhatFollows(t *testing.T) { // P26.6
	r := rand.New(rand.NewSource(1))
	led := 0
	for range 300 {
		b, now := lease.New(), int64(10)
		s := [2]*Switch{made(t, 0), made(t, 1)}
		var lost [2]int64 // the epoch in which it stepped back last
		behind := [2]int64{int64(r.Intn(lease.Skew + 1)), int64(r.Intn(lease.Skew + 1))}
		for range 150 {
			pair := r.Intn(2)
			x, was := s[pair], s[pair].Role()
			switch r.Intn(5) {
			case 0:
				now++
			case 1:
				if other := s[1-pair]; other.Role() == Active {
					x.Beat(other.Epoch())
				}
			default:
				var g lease.Grant
				err := api.ErrState
				switch x.Tick(now - behind[pair]) {
				case Ask:
					b, g, err = b.Ask(pair, now)
				case Renew:
					b, g, err = b.Renew(pair, x.Epoch(), now)
				default:
					err = api.ErrNone
				}
				if err == api.OK {
					x.Granted(g)
				} else if err != api.ErrNone {
					x.Refused()
				}
			}
			if was == Active && x.Role() == Standby {
				lost[pair] = x.Epoch()
			}
			if was == Standby && x.Role() == Active && x.Epoch() <= lost[pair] {
				t.Fatal("active again in an epoch that is past")
			}
			if s[0].Holds(now-behind[0]) && s[1].Holds(now-behind[1]) {
				t.Fatal("both hold", b, now, behind)
			}
			if x.Holds(now - behind[pair]) {
				led++
			}
		}
	}
	if led < 5000 {
		t.Error("hardly any led", led)
	}
}
