package platform

import (
	"slices"

	"semaphore/api"
	"semaphore/disk"
	"semaphore/exec"
	"semaphore/frame"
	"semaphore/link"
	"semaphore/pair"
	"semaphore/repl"
	"semaphore/switchover"
)

// maxReadings is how many readings may be on their way.
const maxReadings = 16

// reading is one on its way to a channel.
type reading struct {
	to    int
	cycle int64
	what  any
}

// life is what a unit has while it is up.
type life struct {
	*pair.Pair
	role     *switchover.Switch
	exec     *exec.Exec
	end      *link.End
	sender   repl.Sender
	receiver repl.Receiver
	readings []reading
	heard    [2]bool // has the channel heard the other's reading of this cycle?
	spoilt   [2]bool // was the channel, since the unit led or was started last?
	row      int     // where the row of this cycle stands
}

// unit is one of two.
type unit struct {
	*life  // nil while it is down
	number int
	disk   *disk.Disk
	behind int64
	cut    bool
	starts int64
	inputs [2]api.Input
	wire   link.Wire // what is on its way to it
}

// start starts the unit; where its pair can't be opened it is down.
func (u *unit) start(l api.Layout) {
	u.starts++
	p, err := pair.Open(l, u.disk)
	if err != api.OK {
		return
	}
	u.life = &life{Pair: p}
	u.role, _ = switchover.New(u.number)
	u.exec, _ = exec.New(phases, Deadline, 0)
	u.end, _ = link.New(uint8(u.number), uint8(1-u.number), u.starts<<32+1)
	if x, ok := u.kept(); ok {
		u.receiver.Begin(x)
	}
}

// goDown lets all be gone that the unit has while it is up.
func (u *unit) goDown() {
	u.disk.Crash()
	u.life = nil
}

// active: does the unit lead?
func (u *unit) active() bool { return u.role.Role() == switchover.Active }

// kept tells what its pair keeps, if anything.
func (u *unit) kept() (frame.Log, bool) {
	s, epoch, cycle, ok := u.Kept()
	return frame.Log{Epoch: epoch, Cycle: cycle, State: s}, ok
}

// lacks: does its pair keep nothing, or something earlier than x?
func (u *unit) lacks(x frame.Log) bool {
	k, ok := u.kept()
	return !ok || x.Epoch > k.Epoch || x.Epoch == k.Epoch && x.Cycle > k.Cycle
}

// putReading puts a reading on its way, if there is room.
func (u *unit) putReading(r reading) {
	if len(u.readings) < maxReadings {
		u.readings = append(u.readings, r)
	}
}

// takeReading takes a reading that is there off its way.
func (u *unit) takeReading(i int) reading {
	r := u.readings[i]
	u.readings = slices.Delete(u.readings, i, i+1)
	return r
}
