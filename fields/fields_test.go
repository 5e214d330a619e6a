package fields

import (
	"bytes"
	"encoding/binary"
	"math/rand"
	"testing"
)

func TestWriterExample(t *testing.T) { // P2.1
	var w Writer
	if len(w.Out()) != 0 {
		t.Error("a new one has bytes")
	}
	w.Byte(1)
	w.Short(2)
	w.Word(0xFF)
	w.Raw([]byte{7})
	if got := w.Out(); !bytes.Equal(got, []byte{1, 0, 2, 0, 0, 0, 0xFF, 7}) {
		t.Errorf("% X", got)
	}
	w.Long(0x0102030405060708)
	if got := w.Out(); len(got) != 16 || !bytes.Equal(got[8:], []byte{1, 2, 3, 4, 5, 6, 7, 8}) {
		t.Errorf("% X", got)
	}
	w.Raw(nil)
	w.Raw([]byte{})
	if len(w.Out()) != 16 {
		t.Error("no bytes put some")
	}
}

func TestNilWriter(t *testing.T) { // P2.1
	var w *Writer
	w.Byte(1)
	w.Short(1)
	w.Word(1)
	w.Long(1)
	w.Raw([]byte{1})
	if len(w.Out()) != 0 {
		t.Error("a nil writer has bytes")
	}
}

func TestReaderExample(t *testing.T) { // P2.2
	r := Open([]byte{1, 2, 3})
	if r.Left() != 3 || r.Bad() {
		t.Error("at the beginning", r.Left(), r.Bad())
	}
	if n := r.Short(); n != 0x0102 || r.Left() != 1 || r.Bad() {
		t.Error("the first number", n)
	}
	if n := r.Short(); n != 0 || r.Left() != 0 || !r.Bad() {
		t.Error("past the end", n, r.Left(), r.Bad())
	}
	if n := r.Byte(); n != 0 || !r.Bad() {
		t.Error("behind that", n)
	}
}

func TestBadStays(t *testing.T) { // P2.2
	for name, ask := range map[string]func(*Reader){
		"Byte": func(r *Reader) { r.Raw(9); r.Byte() }, "Short": func(r *Reader) { r.Raw(8); r.Short() },
		"Word": func(r *Reader) { r.Raw(6); r.Word() }, "Long": func(r *Reader) { r.Raw(2); r.Long() },
		"Raw": func(r *Reader) { r.Raw(10) }, "below 0": func(r *Reader) { r.Raw(-1) },
		"huge": func(r *Reader) { r.Raw(1<<63 - 1) }, "least": func(r *Reader) { r.Raw(-1 << 63) },
	} {
		r := Open([]byte{1, 2, 3, 4, 5, 6, 7, 8, 9})
		ask(r)
		if !r.Bad() || r.Left() != 0 || r.Byte() != 0 || r.Short() != 0 || r.Word() != 0 || r.Long() != 0 || len(r.Raw(1)) != 0 || len(r.Raw(0)) != 0 || !r.Bad() {
			t.Error(name, "isn't bad, or has something")
		}
	}
}

func TestToTheEnd(t *testing.T) { // P2.2
	r := Open([]byte{9, 8, 7})
	if b := r.Raw(3); !bytes.Equal(b, []byte{9, 8, 7}) || r.Bad() || r.Left() != 0 {
		t.Error("all bytes", b)
	}
	if b := r.Raw(0); len(b) != 0 || r.Bad() {
		t.Error("none of none", b)
	}
	if r.Byte() != 0 || !r.Bad() {
		t.Error("one of none")
	}
	if r = Open(nil); r.Bad() || r.Left() != 0 || r.Long() != 0 || !r.Bad() {
		t.Error("of nothing")
	}
}

func TestNilReader(t *testing.T) { // P2.2
	var r *Reader
	if !r.Bad() || r.Left() != 0 || r.Byte() != 0 || r.Short() != 0 || r.Word() != 0 || r.Long() != 0 || len(r.Raw(0)) != 0 || len(r.Raw(-4)) != 0 {
		t.Error("a nil reader has something")
	}
}

func TestCopies(t *testing.T) { // P2.3
	in := []byte{1, 2, 3, 4}
	var w Writer
	w.Raw(in[:2])
	in[0] = 9
	out := w.Out()
	if !bytes.Equal(out, []byte{1, 2}) || in[2] != 3 {
		t.Error("what was put is kept", out)
	}
	out[0] = 9
	out = append(out, 77)
	w.Byte(5)
	if !bytes.Equal(w.Out(), []byte{1, 2, 5}) || out[2] != 77 {
		t.Error("what was told is shared")
	}
	in = []byte{1, 2, 3, 4}
	r := Open(in)
	in[0], in[3] = 9, 9
	first := r.Raw(2)
	if !bytes.Equal(first, []byte{1, 2}) {
		t.Error("what was opened is kept", first)
	}
	_ = append(first, 50)
	if rest := r.Raw(2); !bytes.Equal(rest, []byte{3, 4}) || !bytes.Equal(in, []byte{9, 2, 3, 9}) {
		t.Error("what was read is shared", rest)
	}
}

func TestReadAsPut(t *testing.T) { // P2.4
	rnd := rand.New(rand.NewSource(1))
	for range 300 {
		var w Writer
		var want []byte
		var reads []func(*Reader) bool
		for range rnd.Intn(12) {
			n := rnd.Uint64() >> rnd.Intn(64)
			switch rnd.Intn(5) {
			case 0:
				w.Byte(uint8(n))
				want = append(want, uint8(n))
				reads = append(reads, func(r *Reader) bool { return r.Byte() == uint8(n) })
			case 1:
				w.Short(uint16(n))
				want = binary.BigEndian.AppendUint16(want, uint16(n))
				reads = append(reads, func(r *Reader) bool { return r.Short() == uint16(n) })
			case 2:
				w.Word(uint32(n))
				want = binary.BigEndian.AppendUint32(want, uint32(n))
				reads = append(reads, func(r *Reader) bool { return r.Word() == uint32(n) })
			case 3:
				w.Long(n)
				want = binary.BigEndian.AppendUint64(want, n)
				reads = append(reads, func(r *Reader) bool { return r.Long() == n })
			case 4:
				b := make([]byte, rnd.Intn(20))
				rnd.Read(b)
				w.Raw(b)
				want = append(want, b...)
				reads = append(reads, func(r *Reader) bool { return bytes.Equal(r.Raw(len(b)), b) })
			}
		}
		if !bytes.Equal(w.Out(), want) {
			t.Fatalf("% X, not % X", w.Out(), want)
		}
		w.Byte(200)
		r := Open(w.Out())
		for i, read := range reads {
			if !read(r) {
				t.Fatal("not read as it was put", i)
			}
		}
		if r.Bad() || r.Left() != 1 {
			t.Fatal("not as many bytes were used")
		}
	}
}
