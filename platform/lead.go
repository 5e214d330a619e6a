package platform

import (
	"semaphore/api"
	"semaphore/exec"
	"semaphore/lease"
	"semaphore/switchover"
)

// ask asks the book for an epoch.
func (w *World) ask(u *unit) {
	if !u.cut {
		b, g, err := w.book.Ask(u.number, w.now)
		w.answered(u, b, g, err)
	}
}

// renew asks the book to hold on.
func (w *World) renew(u *unit) {
	if !u.cut {
		b, g, err := w.book.Renew(u.number, u.role.Epoch(), w.now)
		w.answered(u, b, g, err)
	}
}

// answered tells a unit the book's answer: of an epoch that is new to it, it leads.
func (w *World) answered(u *unit, b lease.Book, g lease.Grant, err api.Errno) {
	w.book = b
	if err != api.OK {
		if u.role.Refused() == switchover.Demote {
			u.Stop()
		}
		return
	}
	was := u.role.Epoch()
	if u.role.Granted(g) == api.OK && g.Epoch != was && !w.lead(u, g.Epoch) {
		u.Stop()
	}
}

// lead lets a unit lead; it is told whether it does.
func (w *World) lead(u *unit, epoch int64) bool {
	if w.relay.Fence(u.number, epoch) != api.OK {
		return false
	}
	if x, ok := w.relay.Witness(); ok && u.lacks(x) {
		u.Stop()
		if u.Adopt(x.State, x.Epoch, x.Cycle) != api.OK {
			return false
		}
	}
	if u.Lead(epoch) != api.OK {
		return false
	}
	x, _ := u.kept()
	u.exec, _ = exec.New(phases, Deadline, x.Cycle+1)
	u.readings, u.spoilt = nil, [2]bool{}
	return true
}
