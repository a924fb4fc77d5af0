package frame_test

import (
	"math/rand/v2"
	"slices"
	"testing"

	"bursar/frame"
)

// upTo answers which of row have their frames whole in the first k bytes of all the
// frames, and where those end.
func upTo(row []string, k int) ([]string, int) {
	end := 0
	for i, x := range row {
		if end+headBytes+len(x) > k {
			return row[:i], end
		}
		end += headBytes + len(x)
	}
	return row, end
}

// drawn answers up to most byte strings of up to size bytes, many of them of 0.
func drawn(rnd *rand.Rand, most, size int) []string {
	row := make([]string, rnd.IntN(most+1))
	for i := range row {
		b := make([]byte, rnd.IntN(size+1))
		for k := range b {
			b[k] = byte(rnd.Uint32() >> rnd.IntN(9))
		}
		row[i] = string(b)
	}
	return row
}

// TestCut: 8.2, frames that are cut off at every place tell just what is complete.
func TestCut(t *testing.T) {
	rnd := rand.New(rand.NewPCG(8, 2))
	rows := [][]string{nil, {""}, {"", "", ""}, {"a"}, {"abc", "de"}, {letters(300), "", "a"}, {zeros(20), zeros(9)}}
	for range 60 {
		rows = append(rows, drawn(rnd, 6, 12))
	}
	for _, some := range rows {
		s := framedAll(some)
		for k := range len(s) + 1 {
			parts, end := upTo(some, k)
			holds(t, "8.2: cut off", s[:k], parts, end)
		}
	}
}

// TestCutOfMost: 8.2, one of Most bytes that lacks its last byte, or all of them.
func TestCutOfMost(t *testing.T) {
	s := framed("a") + framed(letters(mostBytes))
	for _, k := range []int{9, 16, 17, 18, 9 + mostBytes, len(s) - 1} {
		holds(t, "8.2: cut off", s[:k], row("a"), 9)
	}
}

// TestTurned: 8, a byte that is turned: its frame is complete no more, those ahead are.
func TestTurned(t *testing.T) {
	some := row("abc", "", "de")
	s := framedAll(some)
	for i := range s {
		parts, end := upTo(some, i)
		for x := 1; x < 256; x++ {
			b := []byte(s)
			b[i] ^= byte(x)
			holds(t, "8: a byte turned", string(b), parts, end)
		}
	}
}

// TestDrawn: 8.2, frames that are drawn, then cut, turned or mixed with other bytes,
// tell what a reading of the chapter tells.
func TestDrawn(t *testing.T) {
	rnd := rand.New(rand.NewPCG(8, 3))
	for range 4000 {
		some := drawn(rnd, 8, 20)
		b := []byte(framedAll(some))
		holds(t, "8.2: drawn", string(b), some, len(b))
		if len(b) == 0 {
			continue
		}
		at := rnd.IntN(len(b))
		switch rnd.IntN(4) {
		case 0:
			b[at] = byte(rnd.Uint32())
		case 1:
			b = slices.Insert(b, at, byte(rnd.Uint32()>>rnd.IntN(9)))
		case 2:
			b = slices.Delete(b, at, min(at+1+rnd.IntN(9), len(b)))
		case 3:
			b = slices.Insert(b, at, []byte(framed("mid"))...)
		}
		parts, end := plain(string(b))
		holds(t, "8.2: drawn and changed", string(b), parts, end)
	}
}

// TestNoise: 8, R1, bytes that were never frames.
func TestNoise(t *testing.T) {
	rnd := rand.New(rand.NewPCG(8, 4))
	for range 20000 {
		b := make([]byte, rnd.IntN(40))
		for i := range b {
			// Small bytes, for most lengths of others are too great.
			if b[i] = byte(rnd.Uint32()) >> rnd.IntN(9); rnd.IntN(2) == 0 {
				b[i] = 0
			}
		}
		parts, end := plain(string(b))
		holds(t, "8: noise", string(b), parts, end)
	}
}

// TestBack: 8.2, what is complete is laid again by Frame as the same bytes.
func TestBack(t *testing.T) {
	rnd := rand.New(rand.NewPCG(8, 5))
	for range 500 {
		s := framedAll(drawn(rnd, 5, 20)) + letters(rnd.IntN(12))
		l, at := frame.List([]byte(s))
		if got := framedAll(texts(l)); got != s[:at] {
			t.Errorf("8.2: % x is laid again as % x", s[:at], got)
		}
	}
}
