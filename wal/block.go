package wal

import (
	"bytes"

	"semaphore/crc"
	"semaphore/disk"
	"semaphore/fields"
)

// maxNumber is the greatest turn, First, and number of a record.
const maxNumber = 1 << 62

// head is what a head says.
type head struct{ turn, first int64 }

// record is a record and its number.
type record struct {
	number int64
	bytes  []byte
}

// block tells the block of a head or a record. Its number stands at its end again: a block of which only the first bytes were written has another one there.
func block(v any) []byte {
	var w fields.Writer
	number := int64(0)
	if h, ok := v.(head); ok {
		number = h.turn
		w.Byte('H')
		w.Long(uint64(h.turn))
		w.Long(uint64(h.first))
	} else {
		r := v.(record)
		number = r.number
		w.Byte('R')
		w.Long(uint64(r.number))
		w.Short(uint16(len(r.bytes)))
		w.Raw(r.bytes)
	}
	w.Word(crc.Sum(w.Out()))
	w.Raw(make([]byte, disk.BlockSize-8-len(w.Out())))
	w.Long(uint64(number))
	return w.Out()
}

// told tells the head or the record of which b is the block; nil, if it is that of none.
func told(b []byte) any {
	r := fields.Open(b)
	switch r.Byte() {
	case 'H':
		h := head{turn: int64(r.Long())}
		h.first = int64(r.Long())
		if right(h.turn) && right(h.first) && bytes.Equal(block(h), b) {
			return h
		}
	case 'R':
		x := record{number: int64(r.Long())}
		x.bytes = r.Raw(int(r.Short()))
		if right(x.number) && len(x.bytes) <= MaxRecord && bytes.Equal(block(x), b) {
			return x
		}
	}
	return nil
}

// right: may a number be?
func right(n int64) bool { return n >= 1 && n <= maxNumber }
