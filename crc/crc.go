// Package crc is layer 1: a check of bytes, and what one byte that is another one does to it. See shared/doc/01-crc.md.
package crc

// MaxBehind is how many bytes may be behind one that is changed.
const MaxBehind = 65536

// last is the eighth of the eight numbers: what a lowest bit becomes when the number is moved down by it. The other seven are it, moved down further, so that a byte goes in bit by bit.
const last number = 0xEDB88320

// number is one that bytes go into.
type number uint32

// down moves the number down by a bit.
func (n number) down() number {
	if n&1 == 0 {
		return n >> 1
	}
	return n>>1 ^ last
}

// up is the way back of down: only a lowest bit that was set leaves the highest one set.
func (n number) up() number {
	if n < 1<<31 {
		return n << 1
	}
	return (n^last)<<1 | 1
}

// eight does for a whole byte what step does for a bit.
func eight(n number, step func(number) number) number {
	for range 8 {
		n = step(n)
	}
	return n
}

// Sum tells the check of bytes.
func Sum(b []byte) uint32 {
	n := ^number(0)
	for _, x := range b {
		n = eight(n^number(x), number.down)
	}
	return uint32(^n)
}

// Change tells the check behind a byte's change.
func Change(sum uint32, from, to byte, behind int) (uint32, bool) {
	if behind < 0 || behind > MaxBehind {
		return 0, false
	}
	unlike := number(from ^ to)
	for range behind + 1 {
		unlike = eight(unlike, number.down)
	}
	return sum ^ uint32(unlike), true
}

// Find tells which byte's change makes a check unlike: it goes back byte by byte, till what is unlike fits into one.
func Find(unlike uint32, n int) (int, byte, bool) {
	if unlike == 0 {
		return 0, 0, false
	}
	left := number(unlike)
	for behind := range min(n, MaxBehind) {
		left = eight(left, number.up)
		if left < 256 {
			return behind, byte(left), true
		}
	}
	return 0, 0, false
}
