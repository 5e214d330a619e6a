package frame

import (
	"semaphore/api"
	"semaphore/crc"
	"semaphore/fields"
)

// PutIn tells an input's frame.
func PutIn(x In) []byte { return put(x) }

// PutOut tells an output's frame.
func PutOut(x Out) []byte { return put(x) }

// PutState tells a state's frame.
func PutState(s api.State) []byte { return put(s) }

// PutLog tells a record's frame.
func PutLog(x Log) []byte { return put(x) }

// PutLink tells a message's frame.
func PutLink(x Link) []byte { return put(x) }

// put tells the frame of what may be one; nothing of anything else.
func put(v any) []byte {
	if x, ok := v.(In); ok && mayIn(x) {
		return checked(kindIn, func(w *fields.Writer) { putIn(w, x) })
	}
	if x, ok := v.(Out); ok && mayOut(x) {
		return checked(kindOut, func(w *fields.Writer) { putOut(w, x) })
	}
	if x, ok := v.(api.State); ok {
		return checked(kindState, func(w *fields.Writer) { putState(w, x) })
	}
	if x, ok := v.(Log); ok && mayLog(x) {
		return checked(kindLog, func(w *fields.Writer) { putLog(w, x) })
	}
	if x, ok := v.(Link); ok && mayLink(x) {
		return checked(kindLink, func(w *fields.Writer) { putLink(w, x) })
	}
	return nil
}

// checked tells a frame: its kind, its fields, the check.
func checked(kind uint8, put func(*fields.Writer)) []byte {
	var w fields.Writer
	w.Byte(kind)
	put(&w)
	w.Word(crc.Sum(w.Out()))
	return w.Out()
}

// longs puts numbers of 8 bytes.
func longs(w *fields.Writer, numbers ...uint64) {
	for _, n := range numbers {
		w.Long(n)
	}
}

func putIn(w *fields.Writer, x In) {
	w.Byte(x.Channel)
	longs(w, uint64(x.Cycle), x.Input.Occupied)
	w.Word(x.Input.Normal)
	w.Word(x.Input.Reverse)
	w.Byte(uint8(len(x.Input.Commands)))
	for _, c := range x.Input.Commands {
		w.Byte(c.Kind)
		w.Byte(uint8(c.N))
	}
}

func putOut(w *fields.Writer, x Out) {
	w.Byte(x.Channel)
	longs(w, uint64(x.Cycle), uint64(x.Epoch), x.Output.Proceed)
	w.Word(x.Output.Points)
}

func putState(w *fields.Writer, s api.State) {
	longs(w, s.Locked, s.Used, s.Cancelled)
	w.Raw(s.Timers[:])
	w.Word(s.Points)
}

func putLog(w *fields.Writer, x Log) {
	longs(w, uint64(x.Epoch), uint64(x.Cycle))
	putState(w, x.State)
}

func putLink(w *fields.Writer, x Link) {
	w.Byte(x.From)
	w.Byte(x.To)
	longs(w, uint64(x.Seq), uint64(x.Ack))
	w.Short(uint16(len(x.B)))
	w.Raw(x.B)
}
