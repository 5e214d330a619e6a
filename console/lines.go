package console

import (
	"strings"

	"semaphore/api"
	"semaphore/bound"
	"semaphore/crc"
	"semaphore/layout"
	"semaphore/platform"
)

// The kinds of steps that have lines of their own.
const (
	stepRead    = 0
	stepPick    = 1
	stepReading = 2
	stepSpoil   = 13
	lastStep    = 16
)

// maxRounds is how many rounds a line may do.
const maxRounds = 60

func (c *console) layoutLine(l line) string {
	c.text += l.whole + "\n"
	return fine
}

func (c *console) newWorld(l line) string {
	blocks := just(1, l)[0]
	c.world, c.calm = nil, nil
	ground, err, n := layout.Parse(c.text)
	if err == api.OK {
		c.world, err = platform.New(ground, int(blocks))
	}
	if err != api.OK {
		return say("error", uint64(err), uint64(n))
	}
	return fine
}

func (c *console) step(l line) string {
	n := some(3, l)
	must(n[0] >= 1 && n[0] <= lastStep && n[0] != stepSpoil)
	s := platform.Step{Kind: uint8(n[0]), A: int(n[1]), N: int(n[2])}
	for _, m := range n[3:] {
		s.Picks = append(s.Picks, int(m))
		s.Fates = append(s.Fates, uint8(m))
	}
	return c.do(s)
}

// do does steps, if there is a world.
func (c *console) do(steps ...platform.Step) string {
	if c.world == nil {
		return nothing
	}
	for _, s := range steps {
		c.world.Do(s)
	}
	return fine
}

func (c *console) read(l line) string {
	n := some(5, l)
	return c.do(platform.Step{Kind: stepRead, A: int(n[0]), N: int(n[1]), In: input(n[2:])})
}

func (c *console) spoil(l line) string {
	n := just(4, l)
	turned := api.State{Locked: uint64(upTo(maxNumber, n[2])), Points: uint32(upTo(maxWord, n[3]))}
	return c.do(platform.Step{Kind: stepSpoil, A: int(n[0]), N: int(n[1]), Spoil: turned})
}

func (c *console) cycle(l line) string {
	n := some(4, l)
	a, in := int(n[0]), input(n[1:])
	c.do(platform.Step{Kind: stepRead, A: a, N: 0, In: in}, platform.Step{Kind: stepRead, A: a, N: 1, In: in}, platform.Step{Kind: stepPick, A: a, Picks: []int{0}})
	for c.world.Readings(a&1) > 0 {
		c.do(platform.Step{Kind: stepReading, A: a})
	}
	return c.do(platform.Step{Kind: stepPick, A: a, Picks: []int{1, 2, 3}})
}

func (c *console) beginCalm(l line) string {
	var units []int
	for _, n := range numbers(l.words) {
		units = append(units, int(n))
	}
	if c.world == nil {
		return nothing
	}
	calm, err := bound.Begin(c.world, units)
	if err != api.OK {
		return sayError(err)
	}
	c.calm = calm
	return fine
}

func (c *console) rounds(l line) string {
	n := some(4, l)
	many, in := upTo(maxRounds, n[0]), input(n[1:])
	if c.calm == nil {
		return nothing
	}
	for range many {
		if err := c.calm.Round(in, in); err != api.OK {
			return sayError(err)
		}
	}
	return say("rounds", uint64(c.calm.Done()))
}

func (c *console) shown(l line) string {
	just(0, l)
	if c.world == nil {
		return nothing
	}
	out, stopped := c.world.Shown()
	return say("shown", out.Proceed, uint64(out.Points), one(stopped), uint64(c.world.Epoch()))
}

func (c *console) rows(l line) string {
	just(0, l)
	if c.world == nil {
		return nothing
	}
	rows := c.world.Rows()
	all := []string{say("rows", uint64(len(rows)))}
	for _, r := range rows {
		all = append(all, tell(uint64(r.Unit), uint64(r.Epoch), uint64(r.Cycle), one(r.Stop), r.Out.Proceed, uint64(r.Out.Points),
			r.In.Occupied, uint64(r.In.Normal), uint64(r.In.Reverse), uint64(len(r.In.Commands))))
	}
	return strings.Join(all, "\n")
}

func (c *console) kept(l line) string {
	unit := just(1, l)[0]
	x, ok := c.world.Kept(int(unit))
	if !ok {
		return nothing
	}
	return say("kept", uint64(x.Epoch), uint64(x.Cycle), x.State.Locked, x.State.Used, x.State.Cancelled, uint64(x.State.Points))
}

func (c *console) units(l line) string {
	just(0, l)
	if c.world == nil {
		return nothing
	}
	var all []uint64
	for n := range 2 {
		is := one(c.world.Up(n)) + one(c.world.Active(n)) + 10*one(c.world.Stopped(n))
		all = append(all, is, uint64(c.world.Phase(n)), uint64(c.world.Way(n)))
	}
	return say("units", all...)
}

func (c *console) check(l line) string {
	must(len(l.words) == 1 && l.words[0] != "")
	return say("crc", uint64(crc.Sum([]byte(l.words[0]))))
}
