package chunk_test

import (
	"bytes"
	"math"
	"testing"

	"bursar/chunk"
)

// TestCutExample: 16.1, the chapter's example.
func TestCutExample(t *testing.T) {
	data := stuff(300)
	for _, c := range []struct {
		offset   int
		part     []byte
		last, ok bool
	}{{0, data[:256], false, true}, {256, data[256:], true, true}, {300, nil, true, true}, {301, nil, false, false}} {
		part, last, ok := chunk.Cut(data, c.offset)
		if !bytes.Equal(part, c.part) || last != c.last || ok != c.ok {
			t.Errorf("16.1: Cut at %d: %d bytes %t %t", c.offset, len(part), last, ok)
		}
	}
}

// TestCutEdges: 16.1, of no bytes, of as many as a piece has, and of more, at each edge.
func TestCutEdges(t *testing.T) {
	for _, n := range []int{0, 1, 2, 255, 256, 257, 300, 511, 512, 513, mostImage - 1, mostImage, mostImage + 1, 3 * mostImage} {
		for _, offset := range []int{
			math.MinInt, math.MinInt + 1, -1 << 32, -n - 1, -n, -257, -256, -1, 0, 1, 255, 256, 257, 512,
			n - 257, n - 256, n - 255, n - 1, n, n + 1, n + 256, n + 1<<32, math.MaxInt - 256, math.MaxInt - 1, math.MaxInt,
		} {
			cuts(t, stuff(n), offset)
		}
	}
}

// TestCutEverywhere: 16.1, at each offset of data of some three pieces.
func TestCutEverywhere(t *testing.T) {
	for _, n := range []int{0, 1, 2, 3, 100, 255, 256, 257, 300, 511, 512, 513, 767, 768, 769} {
		data := stuff(n)
		for offset := -2; offset <= n+2; offset++ {
			cuts(t, data, offset)
		}
	}
}

// TestCutNothing: 16.1, no bytes have one piece, which is the last one, whether their
// slice is nil or empty.
func TestCutNothing(t *testing.T) {
	for _, data := range [][]byte{nil, {}, stuff(9)[:0], stuff(9)[9:]} {
		if part, last, ok := chunk.Cut(data, 0); len(part) != 0 || !last || !ok {
			t.Errorf("16.1: Cut of no bytes at 0: %d bytes %t %t", len(part), last, ok)
		}
		for _, offset := range []int{math.MinInt, -1, 1, 9, math.MaxInt} {
			if part, last, ok := chunk.Cut(data, offset); part != nil || last || ok {
				t.Errorf("16.1: Cut of no bytes at %d: %v %t %t", offset, part, last, ok)
			}
		}
	}
}

// TestCutInARow: 16.1, pieces that follow one another are the whole data: all but the last
// are full, and only the last says so.
func TestCutInARow(t *testing.T) {
	for _, n := range []int{1, 255, 256, 257, 300, 511, 512, 513, 5000, mostImage - 1, mostImage} {
		data := stuff(n)
		var joined []byte
		for k := range (n + mostPiece - 1) / mostPiece {
			part, last, ok := chunk.Cut(data, len(joined))
			joined = append(joined, part...)
			if full := len(part) == mostPiece; !ok || last != (len(joined) == n) || !last && !full {
				t.Errorf("16.1: piece %d of %d bytes: %d bytes %t %t", k, n, len(part), last, ok)
			}
		}
		if !bytes.Equal(joined, data) {
			t.Errorf("16.1: the pieces of %d bytes are %d bytes that are not those", n, len(joined))
		}
	}
}
