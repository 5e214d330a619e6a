package wal

import (
	"bytes"
	"encoding/binary"
	"fmt"
	"hash/crc32"
	"math/rand"
	"testing"

	"semaphore/api"
	"semaphore/disk"
)

func long(n int64) []byte { return binary.BigEndian.AppendUint64(nil, uint64(n)) }

// sealed tells a block of those bytes, their check, and a number at the end.
func sealed(number int64, parts ...[]byte) []byte {
	b := bytes.Join(parts, nil)
	b = binary.BigEndian.AppendUint32(b, crc32.ChecksumIEEE(b))
	return append(append(b, make([]byte, disk.BlockSize-8-len(b))...), long(number)...)
}

func headBlock(turn, first int64) []byte {
	return sealed(turn, []byte("H"), long(turn), long(first))
}

func recordBlock(number int64, s string) []byte {
	return sealed(number, []byte("R"), long(number), []byte{byte(len(s) >> 8), byte(len(s))}, []byte(s))
}

// made is a disk with those blocks, settled.
func made(blocks int, at map[int][]byte) *disk.Disk {
	d := disk.New(blocks)
	for i, b := range at {
		d.Write(i, b)
	}
	d.Sync()
	return d
}

func opened(t *testing.T, d *disk.Disk) *Log {
	t.Helper()
	l, err := Open(d)
	if err != api.OK || l.Broken() != api.OK {
		t.Fatal("opening:", err)
	}
	return l
}

// has fails, unless the log has just these records, from first on.
func has(t *testing.T, l *Log, first int64, records ...string) {
	t.Helper()
	if l.First() != first || l.Next() != first+int64(len(records)) {
		t.Error("from", l.First(), "to", l.Next(), "not", first, len(records))
	}
	for i, s := range records {
		if b, ok := l.Record(first + int64(i)); !ok || string(b) != s {
			t.Errorf("the record %d: %q %v, not %q", first+int64(i), b, ok, s)
		}
	}
	for _, k := range []int64{first - 1, l.Next(), 0, -1, -1 << 63, 1<<63 - 1} {
		if b, ok := l.Record(k); ok || len(b) > 0 {
			t.Errorf("a record %d: %q", k, b)
		}
	}
}

func TestOpenErrors(t *testing.T) { // P15.1
	off := disk.New(5)
	off.Crash()
	small := disk.New(2)
	small.Crash()
	failing := disk.New(5)
	failing.Fail(0)
	failing2 := disk.New(5)
	failing2.Fail(1)
	for name, c := range map[string]struct {
		d    *disk.Disk
		want api.Errno
	}{"nil": {nil, api.ErrNil}, "no blocks": {disk.New(0), api.ErrArg}, "2 blocks": {disk.New(2), api.ErrArg}, "2 blocks, off": {small, api.ErrArg}, "off": {off, api.ErrDisk}, "Write fails": {failing, api.ErrDisk}, "Sync fails": {failing2, api.ErrDisk}} {
		if l, err := Open(c.d); err != c.want || l != nil {
			t.Error(name, err)
		}
	}
}

func TestOpenEmpty(t *testing.T) { // P15.1
	d := disk.New(5)
	has(t, opened(t, d), 1)
	if d.Steps() != 2 || d.Open() != 0 {
		t.Error("not a Write and a Sync", d.Steps())
	}
	if b, _ := d.Read(1); !bytes.Equal(b, headBlock(1, 1)) {
		t.Errorf("the first head: % X", b)
	}
	if b, _ := d.Read(0); !bytes.Equal(b, make([]byte, disk.BlockSize)) {
		t.Error("the block 0 was written")
	}
	has(t, opened(t, d), 1)
	if d.Steps() != 2 {
		t.Error("a head was written once more")
	}
}

func TestOpenHeads(t *testing.T) { // P15.1
	spoilt := headBlock(7, 1)
	spoilt[100] = 1
	for name, c := range map[string]struct {
		at    map[int][]byte
		first int64
		want  api.Errno
	}{
		"the greater turn, block 1":  {map[int][]byte{0: headBlock(4, 1), 1: headBlock(5, 2)}, 2, api.OK},
		"the greater turn, block 0":  {map[int][]byte{0: headBlock(6, 3), 1: headBlock(5, 2)}, 3, api.OK},
		"like turns":                 {map[int][]byte{0: headBlock(5, 3), 1: headBlock(5, 2)}, 3, api.OK},
		"one head":                   {map[int][]byte{0: headBlock(1, 4)}, 4, api.OK},
		"one spoilt":                 {map[int][]byte{0: spoilt, 1: headBlock(5, 2)}, 2, api.OK},
		"the only one spoilt":        {map[int][]byte{0: spoilt}, 0, api.ErrLog},
		"a last byte":                {map[int][]byte{1: append(make([]byte, 255), 1)}, 0, api.ErrLog},
		"turn 0":                     {map[int][]byte{1: headBlock(0, 1)}, 0, api.ErrLog},
		"First 0":                    {map[int][]byte{1: headBlock(1, 0)}, 0, api.ErrLog},
		"turn below 0":               {map[int][]byte{1: headBlock(-1, 1)}, 0, api.ErrLog},
		"turn 2^62":                  {map[int][]byte{1: headBlock(1<<62, 1<<62)}, 1 << 62, api.OK},
		"turn past 2^62":             {map[int][]byte{1: headBlock(1<<62+1, 1)}, 0, api.ErrLog},
		"First past 2^62":            {map[int][]byte{1: headBlock(1, 1<<62+1)}, 0, api.ErrLog},
		"another turn at the end":    {map[int][]byte{1: sealed(2, []byte("H"), long(1), long(1))}, 0, api.ErrLog},
		"bytes more":                 {map[int][]byte{1: sealed(1, []byte("H"), long(1), long(1), []byte{0})}, 0, api.ErrLog},
		"a record in place of a one": {map[int][]byte{1: recordBlock(1, "a")}, 0, api.ErrLog},
		"other blocks count nothing": {map[int][]byte{2: []byte("junk")}, 1, api.OK},
	} {
		l, err := Open(made(5, c.at))
		if err != c.want || err == api.OK && l.First() != c.first || err != api.OK && l != nil {
			t.Error(name, err, l.First())
		}
	}
}

func TestOpenRecords(t *testing.T) { // P15.1
	torn := recordBlock(2, "bb")
	copy(torn[248:], recordBlock(5, "")[248:])
	long1 := string(bytes.Repeat([]byte("x"), MaxRecord))
	for name, c := range map[string]struct {
		at      map[int][]byte
		want    api.Errno
		first   int64
		records []string
	}{
		"three":                {map[int][]byte{1: headBlock(1, 1), 2: recordBlock(1, "a"), 3: recordBlock(2, ""), 4: recordBlock(3, long1)}, api.OK, 1, []string{"a", "", long1}},
		"up to a torn one":     {map[int][]byte{1: headBlock(1, 1), 2: recordBlock(1, "a"), 3: torn}, api.OK, 1, []string{"a"}},
		"a gap":                {map[int][]byte{1: headBlock(1, 1), 2: recordBlock(1, "a"), 3: torn, 4: recordBlock(3, "c")}, api.ErrLog, 0, nil},
		"only a later one":     {map[int][]byte{1: headBlock(1, 1), 3: recordBlock(2, "b")}, api.ErrLog, 0, nil},
		"old ones":             {map[int][]byte{1: headBlock(9, 3), 2: recordBlock(1, "a"), 3: recordBlock(2, "b"), 4: recordBlock(3, "c")}, api.OK, 3, []string{"c"}},
		"all are old":          {map[int][]byte{1: headBlock(9, 4), 2: recordBlock(1, "a"), 3: recordBlock(2, "b"), 4: recordBlock(3, "c")}, api.OK, 4, nil},
		"around the ring":      {map[int][]byte{1: headBlock(9, 3), 2: recordBlock(4, "d"), 3: recordBlock(5, "e"), 4: recordBlock(3, "c")}, api.OK, 3, []string{"c", "d", "e"}},
		"around it, one old":   {map[int][]byte{1: headBlock(9, 3), 2: recordBlock(4, "d"), 3: recordBlock(2, "b"), 4: recordBlock(3, "c")}, api.OK, 3, []string{"c", "d"}},
		"First out of date":    {map[int][]byte{1: headBlock(9, 1), 2: recordBlock(4, "d"), 3: recordBlock(2, "b"), 4: recordBlock(3, "c")}, api.ErrLog, 0, nil},
		"in a wrong block":     {map[int][]byte{1: headBlock(1, 1), 2: recordBlock(2, "b")}, api.ErrLog, 0, nil},
		"Next in a wrong one":  {map[int][]byte{1: headBlock(1, 2), 4: recordBlock(2, "b")}, api.OK, 2, nil},
		"heads in the ring":    {map[int][]byte{1: headBlock(1, 1), 2: headBlock(77, 77), 3: headBlock(2, 1)}, api.OK, 1, nil},
		"number 0":             {map[int][]byte{1: headBlock(1, 1), 2: recordBlock(0, "b")}, api.OK, 1, nil},
		"past 2^62":            {map[int][]byte{1: headBlock(1, 1), 2: recordBlock(1<<62+1, "b")}, api.OK, 1, nil},
		"too many bytes":       {map[int][]byte{1: headBlock(1, 1), 2: recordBlock(1, long1+"x")}, api.OK, 1, nil},
		"a byte behind it":     {map[int][]byte{1: headBlock(1, 1), 2: sealed(1, []byte("R"), long(1), []byte{0, 1}, []byte("ab"))}, api.OK, 1, nil},
		"fewer than it says":   {map[int][]byte{1: headBlock(1, 1), 2: sealed(1, []byte("R"), long(1), []byte{0, 3}, []byte("ab"))}, api.OK, 1, nil},
		"more than a block":    {map[int][]byte{1: headBlock(1, 1), 2: sealed(1, []byte("R"), long(1), []byte{255, 255}, []byte("ab"))}, api.OK, 1, nil},
		"a wrong kind of byte": {map[int][]byte{1: headBlock(1, 1), 2: sealed(1, []byte("Q"), long(1), []byte{0, 1}, []byte("a"))}, api.OK, 1, nil},
	} {
		l, err := Open(made(5, c.at))
		if err != c.want {
			t.Error(name, err)
		} else if err == api.OK {
			t.Log(name)
			has(t, l, c.first, c.records...)
		} else if l != nil {
			t.Error(name, "has a log")
		}
	}
}

func TestNil(t *testing.T) { // P15.2
	var l *Log
	if b, ok := l.Record(0); ok || len(b) > 0 || l.First() != 0 || l.Next() != 0 || l.Room() != 0 || l.Broken() != api.ErrNil || l.Append(nil) != api.ErrNil || l.Truncate(0) != api.ErrNil {
		t.Error("a nil one")
	}
	z := &Log{}
	if _, ok := z.Record(0); ok || z.Room() != 0 || z.Append(nil) != api.ErrFull || z.Truncate(0) != api.ErrNil {
		t.Error("one that was not opened")
	}
}

func TestExample(t *testing.T) { // P15.3
	d := disk.New(5)
	l := opened(t, d)
	if l.Room() != 3 {
		t.Error("room", l.Room())
	}
	for _, s := range []string{"a", "b", "c"} {
		if err := l.Append([]byte(s)); err != api.OK {
			t.Error(s, err)
		}
	}
	if err := l.Append([]byte("d")); err != api.ErrFull {
		t.Error("d", err)
	}
	if err := l.Truncate(3); err != api.OK {
		t.Error(err)
	}
	if err := l.Append([]byte("d")); err != api.OK {
		t.Error(err)
	}
	has(t, l, 3, "c", "d")
	has(t, opened(t, d), 3, "c", "d")
	for i, want := range [][]byte{headBlock(2, 3), headBlock(1, 1), recordBlock(4, "d"), recordBlock(2, "b"), recordBlock(3, "c")} {
		if b, _ := d.Read(i); !bytes.Equal(b, want) {
			t.Errorf("the block %d: % X", i, b)
		}
	}
	if d.Open() != 0 || d.Steps() != 12 {
		t.Error("a Write and a Sync each", d.Steps())
	}
}

func TestAppendAndTruncateWrong(t *testing.T) { // P15.3
	l := opened(t, disk.New(4))
	if l.Append(make([]byte, MaxRecord+1)) != api.ErrLimit || l.Append(make([]byte, MaxRecord)) != api.OK || l.Append(nil) != api.OK {
		t.Error("the longest record")
	}
	if l.Append(make([]byte, MaxRecord+1)) != api.ErrLimit || l.Append(nil) != api.ErrFull {
		t.Error("too long ahead of full")
	}
	for _, k := range []int64{0, 4, -1, -1 << 63, 1<<63 - 1} {
		if l.Truncate(k) != api.ErrArg {
			t.Error("Truncate", k)
		}
	}
	has(t, l, 1, string(make([]byte, MaxRecord)), "")
	if l.Truncate(1) != api.OK || l.Truncate(3) != api.OK {
		t.Error("Truncate to First, to Next")
	}
	has(t, l, 3)
	if l.Truncate(3) != api.OK || l.Append([]byte("z")) != api.OK {
		t.Error("behind that")
	}
	has(t, l, 3, "z")
}

func TestBroken(t *testing.T) { // P15.2, P15.3
	for steps := range 2 {
		d := disk.New(5)
		l := opened(t, d)
		l.Append([]byte("a"))
		d.Fail(steps)
		if l.Append([]byte("b")) != api.ErrDisk || l.Broken() != api.ErrDisk {
			t.Error("Append")
		}
		d.On([]uint8{255})
		if l.Append([]byte("c")) != api.ErrDisk || l.Append(make([]byte, 999)) != api.ErrDisk || l.Truncate(1) != api.ErrDisk || l.Truncate(77) != api.ErrDisk {
			t.Error("all later calls")
		}
		has(t, l, 1, "a")
		has(t, opened(t, d), 1, "a", "b")

		l = opened(t, d)
		d.Fail(steps)
		if l.Truncate(2) != api.ErrDisk || l.Append(nil) != api.ErrDisk {
			t.Error("Truncate")
		}
		has(t, l, 1, "a", "b")
		d.On(nil)
		has(t, opened(t, d), 1, "a", "b")
	}
}

func TestMemory(t *testing.T) { // P15.4
	l := opened(t, disk.New(5))
	b := append(make([]byte, 0, 9), "ab"...)
	l.Append(b)
	b[0] = 'x'
	got, _ := l.Record(1)
	got[1] = 'x'
	has(t, l, 1, "ab")
	if b[:3][2] != 0 {
		t.Error("what was handed in was changed")
	}
}

// TestWhatFollows lets the power go at each step of many scripts, with many fates.
func TestWhatFollows(t *testing.T) { // P15.5
	r := rand.New(rand.NewSource(1))
	for range 1500 {
		d := disk.New(3 + r.Intn(4))
		l := opened(t, d)
		first, number := int64(1), 0
		var kept []string
		for range 1 + r.Intn(4) {
			d.Fail(r.Intn(14))
			under, cut := "", first
			for !d.Off() {
				if r.Intn(3) == 0 {
					cut = first + int64(r.Intn(len(kept)+1))
					if l.Truncate(cut) == api.OK {
						kept, first = kept[cut-first:], cut
					}
					continue
				}
				number++
				s := fmt.Sprint("record ", number, " ", string(make([]byte, r.Intn(200))))
				switch l.Append([]byte(s)) {
				case api.OK:
					kept = append(kept, s)
				case api.ErrFull:
					if len(kept) != l.Room() {
						t.Fatal("full too soon")
					}
				default:
					under, cut = s, first
				}
			}
			has(t, l, first, kept...)
			fates := make([]uint8, r.Intn(4))
			for i := range fates {
				fates[i] = []uint8{0, 1, 20, 100, 247, 248, 249, 254, 255, uint8(r.Intn(256))}[r.Intn(10)]
			}
			d.On(fates)
			l = opened(t, d)
			if l.First() != first && l.First() == cut {
				kept, first = kept[cut-first:], cut
			}
			if last, ok := l.Record(first + int64(len(kept))); ok && string(last) == under {
				kept = append(kept, under)
			}
			has(t, l, first, kept...)
		}
	}
}
