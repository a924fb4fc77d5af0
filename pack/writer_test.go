package pack_test

import (
	"bytes"
	"math"
	"testing"

	"bursar/pack"
)

// laid answers what a new Writer holds once f has written to it.
func laid(f func(w *pack.Writer)) []byte {
	w := pack.NewWriter()
	f(w)
	return w.Bytes()
}

// same fails where got is not want.
func same(t *testing.T, what string, got, want []byte) {
	t.Helper()
	if !bytes.Equal(got, want) {
		t.Errorf("%s: got % x, want % x", what, got, want)
	}
}

// TestWriterAppends: 1.1, it holds nothing at first and then all, in order.
func TestWriterAppends(t *testing.T) {
	w := pack.NewWriter()
	if b := w.Bytes(); len(b) != 0 {
		t.Errorf("1.1: a new Writer holds % x", b)
	}
	w.Byte(7)
	same(t, "1.1: Byte", w.Bytes(), []byte{7})
	w.Num(300)
	same(t, "1.1: Num", w.Bytes(), []byte{7, 0xac, 2})
	w.Int(-3)
	same(t, "1.1: Int", w.Bytes(), []byte{7, 0xac, 2, 5})
	w.Text([]byte("ab"))
	same(t, "1.1: Text", w.Bytes(), []byte{7, 0xac, 2, 5, 2, 'a', 'b'})
	same(t, "1.1: Bytes again", w.Bytes(), []byte{7, 0xac, 2, 5, 2, 'a', 'b'})
}

// TestWriterByte: 1.1, each byte stands for itself.
func TestWriterByte(t *testing.T) {
	for b := range 256 {
		same(t, "1.1: Byte", laid(func(w *pack.Writer) { w.Byte(byte(b)) }), []byte{byte(b)})
	}
}

// digits is Num as the chapter tells it: digits to the base 128, the least first.
func digits(n uint64) []byte {
	d := []byte{byte(n % 128)}
	for n /= 128; n > 0; n /= 128 {
		d[len(d)-1] += 128
		d = append(d, byte(n%128))
	}
	return d
}

// edges are numbers around each power of two.
func edges() []uint64 {
	n := []uint64{0, 300, 1<<56 - 1, math.MaxUint64}
	for k := range 64 {
		p := uint64(1) << k
		n = append(n, p-1, p, p+1)
	}
	return n
}

// TestWriterNum: 1.1, the digits of a number, in as few bytes as there may be.
func TestWriterNum(t *testing.T) {
	for _, n := range edges() {
		same(t, "1.1: Num", laid(func(w *pack.Writer) { w.Num(n) }), digits(n))
	}
	for n, want := range map[uint64]string{
		0: "\x00", 127: "\x7f", 128: "\x80\x01", 300: "\xac\x02",
		16383: "\xff\x7f", 16384: "\x80\x80\x01",
		1<<63 - 1:      "\xff\xff\xff\xff\xff\xff\xff\xff\x7f",
		1 << 63:        "\x80\x80\x80\x80\x80\x80\x80\x80\x80\x01",
		math.MaxUint64: "\xff\xff\xff\xff\xff\xff\xff\xff\xff\x01",
	} {
		same(t, "1.1: Num", laid(func(w *pack.Writer) { w.Num(n) }), []byte(want))
	}
}

// TestWriterInt: 1.1, a sign goes into the lowest bit.
func TestWriterInt(t *testing.T) {
	for n, want := range map[int64]uint64{
		0: 0, -1: 1, 1: 2, -2: 3, 2: 4, -3: 5, 63: 126, -64: 127, 64: 128, -65: 129,
		math.MaxInt64: math.MaxUint64 - 1, math.MinInt64: math.MaxUint64,
		math.MinInt64 + 1: math.MaxUint64 - 2,
	} {
		same(t, "1.1: Int", laid(func(w *pack.Writer) { w.Int(n) }), digits(want))
	}
}

// TestWriterText: 1.1, a length ahead of the bytes.
func TestWriterText(t *testing.T) {
	for _, n := range []int{0, 1, 2, 127, 128, 129, 16383, 16384, 70000} {
		b := bytes.Repeat([]byte{0xa5}, n)
		want := append(digits(uint64(n)), b...)
		same(t, "1.1: Text", laid(func(w *pack.Writer) { w.Text(b) }), want)
	}
	same(t, "1.1: Text(nil)", laid(func(w *pack.Writer) { w.Text(nil) }), []byte{0})
}
