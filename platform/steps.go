package platform

import (
	"semaphore/api"
	"semaphore/copies"
	"semaphore/switchover"
)

// kinds is how many kinds of steps there are, behindMost by how much a clock is less than behind.
const (
	kinds      = 17
	behindMost = 32
)

// modulo tells n modulo many, from 0 on.
func modulo(n, many int) int { return (n%many + many) % many }

// Do does a step.
func (w *World) Do(s Step) {
	if w.none() {
		return
	}
	w.steps++
	u := w.units[modulo(s.A, len(w.units))]
	if do, ok := w.anyway()[s.Kind%kinds]; ok {
		do(u, s)
	} else if do, ok := w.whileUp()[s.Kind%kinds]; ok && u.life != nil {
		do(u, s)
	}
	for _, u := range w.units {
		if u.life != nil && u.disk.Off() {
			u.goDown()
		}
	}
}

// anyway tells what is done by the steps that are not asked of a unit that is up alone.
func (w *World) anyway() map[uint8]func(*unit, Step) {
	return map[uint8]func(*unit, Step){
		0: w.give, 6: w.pass, 7: w.hearMessage, 8: w.loseMessage, 9: w.doubleMessage, 10: w.arm, 12: w.turnOn, 14: w.reset, 15: w.cutOff, 16: w.putBehind,
	}
}

// whileUp tells what is done by the steps that are asked of a unit that is up alone.
func (w *World) whileUp() map[uint8]func(*unit, Step) {
	return map[uint8]func(*unit, Step){
		1: w.pick, 2: w.hearReading, 3: w.loseReading, 4: w.doubleReading, 5: w.tick, 11: w.crash, 13: w.spoil,
	}
}

// give lets a channel read an input from now on.
func (w *World) give(u *unit, s Step) { u.inputs[modulo(s.N, 2)] = copies.Input(s.In) }

// pass lets the time go on.
func (w *World) pass(*unit, Step) {
	w.now++
	w.relay.Tick()
}

func (w *World) hearReading(u *unit, s Step) {
	if n := len(u.readings); n > 0 {
		r := u.takeReading(modulo(s.N, n))
		if u.Hear(r.to, r.what) == api.OK && r.cycle == u.exec.Cycle() {
			u.heard[r.to] = true
		}
	}
}

func (w *World) loseReading(u *unit, s Step) {
	if n := len(u.readings); n > 0 {
		u.takeReading(modulo(s.N, n))
	}
}

func (w *World) doubleReading(u *unit, s Step) {
	if n := len(u.readings); n > 0 {
		u.putReading(u.readings[modulo(s.N, n)])
	}
}

func (w *World) loseMessage(u *unit, s Step) {
	if n := u.wire.Len(); n > 0 {
		u.wire.Take(modulo(s.N, n))
	}
}

func (w *World) doubleMessage(u *unit, s Step) {
	if n := u.wire.Len(); n > 0 {
		u.wire.Double(modulo(s.N, n))
	}
}

// tick lets a unit's clock tick.
func (w *World) tick(u *unit, _ Step) {
	late := u.exec.Late()
	u.exec.Tick()
	if u.exec.Late() && !late {
		w.showAllStop(u)
	}
	switch u.role.Tick(w.clock(u)) {
	case switchover.Ask:
		w.ask(u)
	case switchover.Renew:
		w.renew(u)
	case switchover.Demote:
		u.Stop()
	}
	if u.active() {
		w.sendBeat(u)
		w.sendRecord(u)
	}
}

func (w *World) arm(u *unit, s Step) { u.disk.Fail(s.N) }

func (w *World) crash(u *unit, _ Step) { u.goDown() }

func (w *World) turnOn(u *unit, s Step) {
	if u.life == nil {
		u.disk.On(s.Fates)
		u.start(w.layout)
	}
}

// spoil spoils a channel, but never both between one beginning and the next one.
func (w *World) spoil(u *unit, s Step) {
	if n := modulo(s.N, 2); !u.spoilt[1-n] {
		u.spoilt[n] = true
		u.Spoil(n, s.Spoil)
	}
}

// reset is what the operator does.
func (w *World) reset(*unit, Step) {
	w.relay.Reset()
	for _, u := range w.units {
		if u.life != nil && u.active() && (u.Stopped() || u.exec.Late()) {
			w.ask(u)
		}
	}
}

func (w *World) cutOff(u *unit, s Step) { u.cut = modulo(s.N, 2) == 1 }

func (w *World) putBehind(u *unit, s Step) { u.behind = int64(modulo(s.N, behindMost)) }

// clock tells what a unit's clock says.
func (w *World) clock(u *unit) int64 { return max(w.now-u.behind, 0) }
