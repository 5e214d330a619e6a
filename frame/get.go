package frame

import (
	"semaphore/api"
	"semaphore/crc"
	"semaphore/fields"
)

// checkSize is how many bytes the check has.
const checkSize = 4

// GetIn tells the input of a frame.
func GetIn(b []byte) (In, api.Errno) { return get(b, kindIn, getIn, mayIn) }

// GetOut tells the output of a frame.
func GetOut(b []byte) (Out, api.Errno) { return get(b, kindOut, getOut, mayOut) }

// GetState tells the state of a frame.
func GetState(b []byte) (api.State, api.Errno) {
	return get(b, kindState, getState, func(api.State) bool { return true })
}

// GetLog tells the record of a frame.
func GetLog(b []byte) (Log, api.Errno) { return get(b, kindLog, getLog, mayLog) }

// GetLink tells the message of a frame.
func GetLink(b []byte) (Link, api.Errno) { return get(b, kindLink, getLink, mayLink) }

// get tells what was read of a frame of that kind, if it is one and may be.
func get[T any](b []byte, kind uint8, read func(*fields.Reader) T, may func(T) bool) (T, api.Errno) {
	var none T
	r, ok := body(b, kind)
	if !ok {
		return none, api.ErrFrame
	}
	x := read(r)
	if r.Bad() || r.Left() > 0 || !may(x) {
		return none, api.ErrFrame
	}
	return x, api.OK
}

// body tells a reader of the fields, if the kind and the check are right.
func body(b []byte, kind uint8) (*fields.Reader, bool) {
	end := len(b) - checkSize
	if end < 1 || b[0] != kind || fields.Open(b[end:]).Word() != crc.Sum(b[:end]) {
		return nil, false
	}
	return fields.Open(b[1:end]), true
}

func getIn(r *fields.Reader) In {
	x := In{Channel: r.Byte(), Cycle: int64(r.Long())}
	x.Input = api.Input{Occupied: r.Long(), Normal: r.Word(), Reverse: r.Word()}
	for range r.Byte() {
		x.Input.Commands = append(x.Input.Commands, api.Command{Kind: r.Byte(), N: int(r.Byte())})
	}
	return x
}

func getOut(r *fields.Reader) Out {
	x := Out{Channel: r.Byte(), Cycle: int64(r.Long()), Epoch: int64(r.Long())}
	x.Output = api.Output{Proceed: r.Long(), Points: r.Word()}
	return x
}

func getState(r *fields.Reader) api.State {
	s := api.State{Locked: r.Long(), Used: r.Long(), Cancelled: r.Long()}
	copy(s.Timers[:], r.Raw(len(s.Timers)))
	s.Points = r.Word()
	return s
}

func getLog(r *fields.Reader) Log {
	return Log{Epoch: int64(r.Long()), Cycle: int64(r.Long()), State: getState(r)}
}

func getLink(r *fields.Reader) Link {
	x := Link{From: r.Byte(), To: r.Byte(), Seq: int64(r.Long()), Ack: int64(r.Long())}
	x.B = r.Raw(int(r.Short()))
	return x
}

// Kind tells which kind of frame bytes are.
func Kind(b []byte) uint8 {
	if len(b) == 0 {
		return 0
	}
	err := api.ErrFrame
	switch b[0] {
	case kindIn:
		_, err = GetIn(b)
	case kindOut:
		_, err = GetOut(b)
	case kindState:
		_, err = GetState(b)
	case kindLog:
		_, err = GetLog(b)
	case kindLink:
		_, err = GetLink(b)
	}
	if err != api.OK {
		return 0
	}
	return b[0]
}
