package frame_test

import (
	"math/rand/v2"
	"testing"

	"bursar/frame"
)

// TestMost: 8, the constant that the chapter names.
func TestMost(t *testing.T) {
	if frame.Most != mostBytes {
		t.Errorf("8: Most is %d", frame.Most)
	}
}

// TestFrame: 8.1, the length, the checksum, and the bytes.
func TestFrame(t *testing.T) {
	for given, want := range map[string]string{
		"":           zeros(8),
		"123456789":  "\x09\x00\x00\x00\x83\x92\x06\xe3123456789",
		zeros(32):    " \x00\x00\x00\xaa\x36\x91\x8a" + zeros(32),
		letters(258): "\x02\x01\x00\x00" + whole(letters(258))[4:8] + letters(258),
	} {
		if got := framed(given); got != want {
			t.Errorf("8.1: Frame(%.20q): % x, not % x", given, got, want)
		}
	}
	if got := frame.Frame(nil); string(got) != zeros(8) {
		t.Errorf("8.1: Frame(nil): % x", got)
	}
}

// TestFrameOfLengths: 8.1, each length up to some, and those about the powers of two,
// with bytes that are drawn.
func TestFrameOfLengths(t *testing.T) {
	rnd := rand.New(rand.NewPCG(8, 1))
	sizes := []int{255, 256, 257, 511, 512, 4095, 4096, 4097, 65534, 65535}
	for size := range 70 {
		sizes = append(sizes, size)
	}
	for _, size := range sizes {
		b := make([]byte, size)
		for i := range b {
			b[i] = byte(rnd.Uint32())
		}
		if got := string(frame.Frame(b)); got != whole(string(b)) {
			t.Errorf("8.1: Frame of %d bytes: % .20x, not % .20x", size, got, whole(string(b)))
		}
	}
}

// TestFrameOfMost: 8.1, just Most bytes have a frame, and more have none.
func TestFrameOfMost(t *testing.T) {
	s := letters(mostBytes)
	if got := framed(s); got != whole(s) || got[:4] != "\x00\x00\x01\x00" {
		t.Errorf("8.1: Most bytes: %d bytes, % .20x", len(got), got)
	}
	for _, size := range []int{mostBytes + 1, mostBytes + 2, 2 * mostBytes, 1 << 20} {
		if got := frame.Frame(make([]byte, size)); len(got) != 0 {
			t.Errorf("8.1: Frame of %d bytes has %d", size, len(got))
		}
	}
}
