package chunk_test

import (
	"math"
	"math/rand/v2"
	"testing"

	"bursar/api"
	"bursar/chunk"
)

// drawnBase draws the base of m, one that is near it, or any.
func drawnBase(rnd *rand.Rand, m *model) api.Base {
	b := m.base
	switch rnd.IntN(60) {
	case 0:
		b.Index += uint64(rnd.IntN(3)) - 1
	case 1:
		b.Term += uint64(rnd.IntN(3)) - 1
	case 2:
		b.Conf += rnd.IntN(3) - 1
	case 3:
		return base
	case 4:
		return api.Base{}
	case 5:
		return api.Base{Index: rnd.Uint64(), Term: rnd.Uint64(), Conf: int(rnd.Uint64())}
	}
	return b
}

// drawnOffset draws the end of what m has, or a place near it, or any.
func drawnOffset(rnd *rand.Rand, m *model) int {
	end := len(m.data())
	switch rnd.IntN(12) {
	case 0:
		return end + rnd.IntN(5) - 2
	case 1:
		return rnd.IntN(end + 1)
	case 2:
		return end + mostPiece*(rnd.IntN(3)-1)
	case 3:
		return int(rnd.Uint64()) >> rnd.IntN(64)
	case 4:
		return []int{math.MinInt, -1, 0, mostImage, math.MaxInt}[rnd.IntN(5)]
	}
	return end
}

// drawnPart draws bytes: mostly of a piece, now and then as many as have room, or one
// more or less.
func drawnPart(rnd *rand.Rand, m *model) []byte {
	n := rnd.IntN(mostPiece + 1)
	switch rnd.IntN(20) {
	case 0:
		n = max(0, mostImage-len(m.data())+rnd.IntN(3)-1)
	case 1:
		n = rnd.IntN(mostImage + 2)
	case 2:
		n = 0
	}
	b := make([]byte, n)
	x := rnd.Uint32()
	for i := range b {
		x = x*1664525 + 1013904223
		b[i] = byte(x >> 24)
	}
	return b
}

// TestDrawn: 16.1, drawn steps, held against a model.
func TestDrawn(t *testing.T) {
	rnd := rand.New(rand.NewPCG(16, 1))
	for range 60 {
		x, m := chunk.NewTaker(), &model{}
		for range 200 {
			if rnd.IntN(80) == 0 {
				x.Clear()
				*m = model{}
			}
			b, offset, part, last := drawnBase(rnd, m), drawnOffset(rnd, m), drawnPart(rnd, m), rnd.IntN(2) == 0
			done, have := m.take(b, offset, part, last)
			takes(t, x, b, offset, part, last, done, have)
			scrawl(part)
			holds(t, "drawn steps", x, m.base, m.data())
		}
	}
}

// TestDrawnCut: 16.1, drawn data and offsets.
func TestDrawnCut(t *testing.T) {
	rnd := rand.New(rand.NewPCG(16, 3))
	for range 3000 {
		m := &model{pieces: [][]byte{stuff(rnd.IntN(1500))}}
		cuts(t, m.data(), drawnOffset(rnd, m))
	}
}
