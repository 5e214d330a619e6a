package platform

import (
	"semaphore/api"
	"semaphore/repl"
	"semaphore/switchover"
)

// beat is the epoch in which the other unit says that it leads.
type beat int64

// beatSize is how many bytes a beat has.
const beatSize = 9

// putBeat tells a beat's bytes.
func putBeat(epoch int64) []byte {
	b := []byte{'B'}
	for shift := 56; shift >= 0; shift -= 8 {
		b = append(b, byte(epoch>>shift))
	}
	return b
}

// heardMessage tells what bytes say: a beat, a message, or nil.
func heardMessage(b []byte) any {
	if len(b) == beatSize && b[0] == 'B' {
		epoch := int64(0)
		for _, x := range b[1:] {
			epoch = epoch<<8 | int64(x)
		}
		return beat(epoch)
	}
	if len(b) > 0 && b[0] == 'R' {
		if m, err := repl.Get(b[1:]); err == api.OK {
			return m
		}
	}
	return nil
}

// send puts what a unit's end makes of bytes on the wire to the other unit.
func (w *World) send(u *unit, b []byte) {
	if f, err := u.end.Send(b); err == api.OK {
		w.units[1-u.number].wire.Put(f)
	}
}

// sendBeat says that the unit leads.
func (w *World) sendBeat(u *unit) { w.send(u, putBeat(u.role.Epoch())) }

// sendRecord sends what the unit's sender has to send.
func (w *World) sendRecord(u *unit) {
	if m, ok := u.sender.Send(); ok {
		w.sendMessage(u, m)
	}
}

func (w *World) sendMessage(u *unit, m repl.Message) {
	w.send(u, append([]byte{'R'}, repl.Put(m)...))
}

func (w *World) hearMessage(u *unit, s Step) {
	n := u.wire.Len()
	if n == 0 {
		return
	}
	f, _ := u.wire.Take(modulo(s.N, n))
	if u.life == nil {
		return
	}
	b, err := u.end.Hear(f)
	if err != api.OK {
		return
	}
	switch x := heardMessage(b).(type) {
	case beat:
		if u.role.Beat(int64(x)) == switchover.Demote {
			u.Stop()
		}
	case repl.Message:
		w.follow(u, x)
	}
}

// follow lets a unit's sender hear an answer, or one that does not lead keep what the other one sends.
func (w *World) follow(u *unit, m repl.Message) {
	if m.Kind == repl.Ack || m.Kind == repl.Want {
		u.sender.Hear(m)
		return
	}
	if u.active() || !u.Stopped() {
		return
	}
	answer, fresh, err := u.receiver.Hear(m)
	if err != api.OK {
		return
	}
	if x, _ := u.receiver.Has(); fresh && u.lacks(x) {
		u.Adopt(x.State, x.Epoch, x.Cycle)
	}
	w.sendMessage(u, answer)
}
