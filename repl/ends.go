package repl

import (
	"slices"

	"semaphore/api"
	"semaphore/frame"
)

// Sender is the pair that leads.
type Sender struct {
	records []frame.Log // rising
	base    int         // its place among them, from 1 on; 0: there is none
}

// latest tells the record that was offered last, if any was.
func (s *Sender) latest() (frame.Log, bool) {
	if s == nil || len(s.records) == 0 {
		return frame.Log{}, false
	}
	return s.records[len(s.records)-1], true
}

// Offer offers a record.
func (s *Sender) Offer(x frame.Log) api.Errno {
	if s == nil {
		return api.ErrNil
	}
	last, ok := s.latest()
	if !within(x.Epoch, x.Cycle) || ok && order(x, last) <= 0 {
		return api.ErrArg
	}
	s.records = append(s.records, x)
	if len(s.records) > Keep {
		s.records = slices.Delete(s.records, 0, 1)
		s.base = max(s.base-1, 0)
	}
	return api.OK
}

// Send tells what is to be sent.
func (s *Sender) Send() (Message, bool) {
	last, ok := s.latest()
	if !ok || s.base == len(s.records) {
		return Message{}, false
	}
	m := Message{Kind: Whole, Epoch: last.Epoch, Cycle: last.Cycle}
	if base, ok := s.Acked(); ok {
		m.Kind, m.BaseEpoch, m.Base, m.Delta = Part, base.Epoch, base.Cycle, Diff(base.State, last.State)
	} else {
		m.State = last.State
	}
	return m, true
}

// Hear hears an answer.
func (s *Sender) Hear(m Message) api.Errno {
	if s == nil {
		return api.ErrNil
	}
	if !may(m) || m.Kind != Ack && m.Kind != Want {
		return api.ErrArg
	}
	if m.Kind == Want {
		s.base = 0
		return api.OK
	}
	i, has := slices.BinarySearchFunc(s.records, frame.Log{Epoch: m.Epoch, Cycle: m.Cycle}, order)
	if has {
		s.base = max(s.base, i+1)
	}
	return api.OK
}

// Acked tells what the other one has.
func (s *Sender) Acked() (frame.Log, bool) {
	if s == nil || s.base == 0 {
		return frame.Log{}, false
	}
	return s.records[s.base-1], true
}

// Receiver is the other pair.
type Receiver struct {
	record frame.Log
	has    bool
}

// Begin begins with a record.
func (r *Receiver) Begin(x frame.Log) api.Errno {
	if r == nil {
		return api.ErrNil
	}
	if !within(x.Epoch, x.Cycle) {
		return api.ErrArg
	}
	r.record, r.has = x, true
	return api.OK
}

// Hear hears a message, and answers it.
func (r *Receiver) Hear(m Message) (Message, bool, api.Errno) {
	if r == nil {
		return Message{}, false, api.ErrNil
	}
	if !may(m) || m.Kind != Whole && m.Kind != Part {
		return Message{}, false, api.ErrArg
	}
	next := frame.Log{Epoch: m.Epoch, Cycle: m.Cycle, State: m.State}
	if r.has && order(next, r.record) <= 0 {
		return r.ack(), false, api.OK
	}
	if m.Kind == Part {
		if !r.has || m.BaseEpoch != r.record.Epoch || m.Base != r.record.Cycle {
			return Message{Kind: Want}, false, api.OK
		}
		next.State, _ = Patch(r.record.State, m.Delta)
	}
	r.record, r.has = next, true
	return r.ack(), true, api.OK
}

// ack tells the other one what this one has.
func (r *Receiver) ack() Message {
	return Message{Kind: Ack, Epoch: r.record.Epoch, Cycle: r.record.Cycle}
}

// Has tells what it has.
func (r *Receiver) Has() (frame.Log, bool) {
	if r == nil {
		return frame.Log{}, false
	}
	return r.record, r.has
}
