// Package pack: numbers as bytes, sums: see DOC.md, chapter 1.
package pack

import (
	"bytes"

	"bursar/api"
)

const (
	more     = 128        // in a byte of a varint: another byte follows
	lastByte = 9          // where a varint of 64 bits must end: nine bytes hold only 63
	sumBytes = 4          // bytes of a sum
	mask     = 2197175160 // the polynomial of CRC-32C, its bits turned round
)

// Writer lays bytes.
type Writer struct {
	laid []byte
}

// NewWriter makes a Writer that holds no bytes.
func NewWriter() *Writer { return &Writer{} }

// Byte lays b.
func (w *Writer) Byte(b byte) { w.laid = append(w.laid, b) }

// Num lays n as a varint.
func (w *Writer) Num(n uint64) {
	for n >= more {
		w.laid = append(w.laid, byte(n)|more)
		n >>= 7
	}
	w.laid = append(w.laid, byte(n))
}

// Int lays n as the varint of 2n, or of -2n-1 where n is negative.
func (w *Writer) Int(n int64) {
	// n>>63 is all ones below zero, and turning every bit of 2n gives -2n-1,
	// also for the least n, whose double has no place in an int64.
	w.Num(uint64(n<<1) ^ uint64(n>>63))
}

// Text lays the length of b, then b.
func (w *Writer) Text(b []byte) {
	w.Num(uint64(len(b)))
	w.laid = append(w.laid, b...)
}

// Bytes answers all that was laid.
func (w *Writer) Bytes() []byte { return bytes.Clone(w.laid) }

// Reader reads them, and keeps what was wrong first.
type Reader struct {
	left  []byte // from the position on
	fault api.Errno
}

// NewReader makes a Reader that stands at the beginning of b.
func NewReader(b []byte) *Reader { return &Reader{left: bytes.Clone(b)} }

// Byte reads one byte.
func (r *Reader) Byte(most byte) byte {
	if r.fault != api.OK {
		return 0
	}
	if len(r.left) == 0 {
		r.fault = api.ErrShort
		return 0
	}
	b := r.left[0]
	if b > most {
		r.fault = api.ErrLong
		return 0
	}
	r.left = r.left[1:]
	return b
}

// Num reads a varint.
func (r *Reader) Num(most uint64) uint64 {
	if r.fault != api.OK {
		return 0
	}
	n, size, e := varint(r.left, most)
	r.fault = e
	r.left = r.left[size:]
	return n
}

// Int reads what Writer.Int lays.
func (r *Reader) Int() int64 {
	n := r.Num(1<<64 - 1)
	return int64(n>>1) ^ -int64(n&1)
}

// Text reads a length and as many bytes.
func (r *Reader) Text(most int) []byte {
	if r.fault != api.OK {
		return nil
	}
	n, size, e := varint(r.left, uint64(max(most, 0)))
	if e != api.OK {
		r.fault = e
		return nil
	}
	// n is an int, for most is one; n and size together may be none.
	if int(n) > len(r.left)-size {
		r.fault = api.ErrShort
		return nil
	}
	end := size + int(n)
	b := bytes.Clone(r.left[size:end])
	r.left = r.left[end:]
	return b
}

// End answers what was wrong first, or ErrForm where bytes are left.
func (r *Reader) End() api.Errno {
	if r.fault == api.OK && len(r.left) > 0 {
		return api.ErrForm
	}
	return r.fault
}

// varint answers the number that b begins with, and how many bytes it takes.
func varint(b []byte, most uint64) (n uint64, size int, e api.Errno) {
	for i, c := range b {
		// Only one bit of the number is left for the last byte.
		if i == lastByte && c > 1 {
			return 0, 0, api.ErrForm
		}
		n |= uint64(c&^more) << (7 * i)
		if c >= more {
			continue
		}
		// A digit 0 on top would give the number a second form.
		if c == 0 && i > 0 {
			return 0, 0, api.ErrForm
		}
		if n > most {
			return 0, 0, api.ErrLong
		}
		return n, i + 1, api.OK
	}
	return 0, 0, api.ErrShort
}

// Sum answers the CRC-32C of b.
func Sum(b []byte) uint32 {
	h := ^uint32(0)
	for _, c := range b {
		h ^= uint32(c)
		for range 8 {
			odd := h & 1
			h = h>>1 ^ odd*mask
		}
	}
	return ^h
}

// Seal answers b with its sum behind it.
func Seal(b []byte) []byte {
	s := make([]byte, 0, len(b)+sumBytes)
	s = append(s, b...)
	h := Sum(b)
	return append(s, byte(h), byte(h>>8), byte(h>>16), byte(h>>24))
}

// Unseal answers what Seal was given.
func Unseal(b []byte) ([]byte, api.Errno) {
	at := len(b) - sumBytes
	if at < 0 {
		return nil, api.ErrShort
	}
	s := b[at:]
	h := uint32(s[0]) | uint32(s[1])<<8 | uint32(s[2])<<16 | uint32(s[3])<<24
	if h != Sum(b[:at]) {
		return nil, api.ErrSum
	}
	return bytes.Clone(b[:at]), api.OK
}
