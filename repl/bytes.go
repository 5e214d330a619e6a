package repl

import (
	"semaphore/api"
	"semaphore/fields"
	"semaphore/frame"
)

// Put tells a message's bytes.
func Put(m Message) []byte {
	if !may(m) {
		return nil
	}
	var w fields.Writer
	w.Byte(m.Kind)
	longs(&w, m.Epoch, m.Cycle, m.BaseEpoch, m.Base)
	switch m.Kind {
	case Whole:
		w.Raw(frame.PutState(m.State))
	case Part:
		putDelta(&w, m.Delta)
	}
	return w.Out()
}

// longs puts numbers of 8 bytes.
func longs(w *fields.Writer, numbers ...int64) {
	for _, n := range numbers {
		w.Long(uint64(n))
	}
}

func putDelta(w *fields.Writer, d Delta) {
	w.Long(d.Locked)
	w.Long(d.Used)
	w.Long(d.Cancelled)
	w.Word(d.Points)
	w.Byte(uint8(len(d.Timers)))
	for _, x := range d.Timers {
		w.Byte(uint8(x.Route))
		w.Byte(x.Value)
	}
}

// Get tells the message of bytes.
func Get(b []byte) (Message, api.Errno) {
	r := fields.Open(b)
	m := Message{Kind: r.Byte()}
	m.Epoch, m.Cycle, m.BaseEpoch, m.Base = long(r), long(r), long(r), long(r)
	err := api.OK
	switch m.Kind {
	case Whole:
		m.State, err = frame.GetState(r.Raw(r.Left()))
	case Part:
		m.Delta = getDelta(r)
	}
	if err != api.OK || r.Bad() || r.Left() > 0 || !may(m) || !lean(m) {
		return Message{}, api.ErrFrame
	}
	return m, api.OK
}

// long reads a number of 8 bytes.
func long(r *fields.Reader) int64 { return int64(r.Long()) }

func getDelta(r *fields.Reader) Delta {
	d := Delta{}
	d.Locked = r.Long()
	d.Used = r.Long()
	d.Cancelled = r.Long()
	d.Points = r.Word()
	for range r.Byte() {
		route := int(r.Byte())
		d.Timers = append(d.Timers, Timer{route, r.Byte()})
	}
	return d
}

// lean: are all numbers empty that a message's kind has not?
func lean(m Message) bool {
	switch m.Kind {
	case Part:
		return true
	case Want:
		return m.Epoch == 0 && m.Cycle == 0 && m.BaseEpoch == 0 && m.Base == 0
	}
	return m.BaseEpoch == 0 && m.Base == 0
}
