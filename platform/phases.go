package platform

import (
	"semaphore/api"
	"semaphore/frame"
)

// phases is how many phases a cycle has.
const phases = 4

// pick tries each of some phases that is the next one.
func (w *World) pick(u *unit, s Step) {
	tries := [phases]func(*unit) bool{w.read, w.agree, w.finish, w.show}
	for _, p := range s.Picks {
		if p == u.exec.Phase() && !u.exec.Late() && !u.Stopped() && tries[p](u) {
			u.exec.Done(p)
		}
	}
}

// read begins the executive's cycle.
func (w *World) read(u *unit) bool {
	cycle := u.exec.Cycle()
	readings, err := u.Begin(cycle, u.inputs[0], u.inputs[1])
	if err != api.OK {
		return false
	}
	u.heard = [2]bool{}
	for n, r := range readings {
		u.putReading(reading{to: 1 - n, cycle: cycle, what: r})
	}
	return true
}

// agree: have both channels heard the other's reading?
func (w *World) agree(u *unit) bool { return u.heard[0] && u.heard[1] }

// finish lets the pair finish its cycle: of its row nothing is shown yet.
func (w *World) finish(u *unit) bool {
	in, _ := u.Merged()
	u.row = len(w.rows)
	w.rows = append(w.rows, Row{Unit: u.number, Epoch: u.role.Epoch(), Cycle: u.exec.Cycle(), In: in, Stop: true})
	if u.Finish() != api.OK {
		w.showAllStop(u)
		return false
	}
	return true
}

// show shows by the relay what the pair shows, while the unit may.
func (w *World) show(u *unit) bool {
	if !u.active() || u.cut {
		return true
	}
	if !u.role.Holds(w.clock(u)) {
		u.Stop()
		return true
	}
	f, _ := u.Shown()
	x, _ := u.kept()
	switch w.relay.Admit(u.number, frame.Out{Cycle: f.Cycle, Epoch: f.Epoch, Output: f.Out}, x.State) {
	case api.OK:
		w.rows[u.row].Stop, w.rows[u.row].Out = false, f.Out
		x.Epoch, x.Cycle = f.Epoch, f.Cycle
		u.sender.Offer(x)
		w.sendRecord(u)
	case api.ErrEpoch:
		u.Stop()
	}
	return true
}

// showAllStop stops the unit's pair, and the relay, where the unit leads.
func (w *World) showAllStop(u *unit) {
	u.Stop()
	if u.active() && !u.cut {
		w.relay.Stop(u.number, u.role.Epoch())
	}
}
