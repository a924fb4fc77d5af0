package chunk_test

import (
	"bytes"
	"testing"

	"bursar/api"
	"bursar/chunk"
)

// scrawl writes over b and over the room behind it.
func scrawl(b []byte) {
	b = b[:cap(b)]
	for i := range b {
		b[i] ^= 0xff
	}
}

// roomy answers the n bytes of stuff with marked room behind them.
func roomy(n int) []byte {
	return append(stuff(n), bytes.Repeat([]byte{0xcc}, 600)...)[:n]
}

// TestDataStays: R2, what is cut is not changed, nor is the room behind it.
func TestDataStays(t *testing.T) {
	for _, n := range []int{0, 1, 255, 256, 257, 300, 512, 513} {
		data := roomy(n)
		before := bytes.Clone(data[:cap(data)])
		for offset := -1; offset <= n+1; offset++ {
			part, _, _ := chunk.Cut(data, offset)
			scrawl(part)
			scrawl(append(part, "behind it"...))
			if !bytes.Equal(data[:cap(data)], before) {
				t.Fatalf("R2: Cut of %d bytes at %d: the data is changed", n, offset)
			}
		}
	}
}

// TestPiecesAreNew: R2, a piece stays as it is, whatever is written over the data or over
// another piece.
func TestPiecesAreNew(t *testing.T) {
	for _, n := range []int{1, 256, 300, 600} {
		data := roomy(n)
		for _, offset := range []int{0, n / 2, n} {
			part, _, _ := chunk.Cut(data, offset)
			other, _, _ := chunk.Cut(data, offset)
			scrawl(other)
			if want, _, _ := cutAnew(stuff(n), offset); !bytes.Equal(part, want) {
				t.Errorf("R2: Cut of %d bytes at %d: another piece was written over", n, offset)
			}
			scrawl(data)
			if want, _, _ := cutAnew(stuff(n), offset); !bytes.Equal(part, want) {
				t.Errorf("R2: Cut of %d bytes at %d: the data was written over", n, offset)
			}
			scrawl(data)
		}
	}
}

// TestPartsStay: R2, a piece that is taken or refused is not changed, nor is the room
// behind it, by anything that is done then.
func TestPartsStay(t *testing.T) {
	for _, n := range []int{0, 1, 2, 256, 300, mostImage, mostImage + 1} {
		for _, offset := range []int{0, 1, 2, -1} {
			part := roomy(n)
			before := bytes.Clone(part[:cap(part)])
			x := filled(t, base, []byte("a"))
			x.Take(base, offset, part, false)
			x.Take(base, len(x.Data()), []byte("behind it"), false)
			scrawl(x.Data())
			x.Take(neighbors[0], 0, part, true)
			x.Take(neighbors[0], n, []byte("behind it"), false)
			x.Take(base, 0, []byte("in its place"), true)
			x.Clear()
			x.Take(base, 0, []byte("in its place"), true)
			if !bytes.Equal(part[:cap(part)], before) {
				t.Errorf("R2: Take(%d, %d bytes): the piece is changed", offset, n)
			}
		}
	}
}

// TestPartsAreNotKept: R2, pieces that were taken may be written over, and the room
// behind them.
func TestPartsAreNotKept(t *testing.T) {
	for _, n := range []int{1, 2, 256, 300, 5000, mostImage - 300} {
		x := chunk.NewTaker()
		first, second := roomy(n), roomy(300)
		takes(t, x, base, 0, first, false, false, n)
		scrawl(first)
		holds(t, "R2: the first piece was written over", x, base, stuff(n))
		takes(t, x, base, n, second, true, true, n+300)
		scrawl(first)
		scrawl(second)
		holds(t, "R2: both were written over", x, base, append(stuff(n), stuff(300)...))
	}
}

// TestAnswersAreNew: R2, who writes over what Data answered, or over the room behind it,
// changes neither the Taker nor another answer.
func TestAnswersAreNew(t *testing.T) {
	for _, n := range []int{0, 1, 2, 255, 256, 257, 1000, mostImage} {
		x := chunk.NewTaker()
		for offset := 0; offset < n; offset += mostPiece {
			part, last, _ := chunk.Cut(stuff(n), offset)
			x.Take(base, offset, part, last)
			data := x.Data()
			scrawl(data)
			scrawl(append(data, "behind it"...))
			holds(t, "R2: an answer was written over", x, base, stuff(n)[:offset+len(part)])
		}
		data, other := x.Data(), x.Data()
		scrawl(other)
		if !bytes.Equal(data, stuff(n)) {
			t.Errorf("R2: Data of %d bytes: another answer was written over", n)
		}
	}
}

// TestAnswersStay: R2, what Data answered stays as it is, whatever is done to the Taker.
func TestAnswersStay(t *testing.T) {
	for _, n := range []int{1, 2, 256, 300, 5000} {
		x := filled(t, base, stuff(n))
		data := x.Data()
		row := append(x.Data(), "behind it"...)
		x.Take(base, n, []byte("cd"), true)
		x.Take(neighbors[0], 0, bytes.Repeat([]byte("x"), n), true)
		x.Clear()
		x.Take(base, 0, bytes.Repeat([]byte("y"), n+2), true)
		if !bytes.Equal(data, stuff(n)) || !bytes.Equal(row, append(stuff(n), "behind it"...)) {
			t.Errorf("R2: Data of %d bytes is changed", n)
		}
	}
}

// TestDataAsPart: R2, what one Taker answered may be handed to it again, and to another.
func TestDataAsPart(t *testing.T) {
	x := filled(t, base, []byte("ab"))
	takes(t, x, base, 2, x.Data(), false, false, 4)
	takes(t, x, base, 4, x.Data(), false, false, 8)
	holds(t, "R2: its own bytes", x, base, []byte("abababab"))
	y := chunk.NewTaker()
	takes(t, y, neighbors[0], 0, x.Data(), true, true, 8)
	takes(t, x, base, 8, []byte("c"), false, false, 9)
	holds(t, "R2: those of another", y, neighbors[0], []byte("abababab"))
}

// TestTwo: R8, what is done to one Taker is not seen in another.
func TestTwo(t *testing.T) {
	x, y, z := chunk.NewTaker(), chunk.NewTaker(), chunk.NewTaker()
	part := roomy(300)
	takes(t, x, base, 0, part, false, false, 300)
	holds(t, "R8: one that had nothing", y, api.Base{}, nil)
	takes(t, y, base, 0, part, false, false, 300)
	takes(t, z, neighbors[2], 0, part[:7], false, false, 7)
	takes(t, x, base, 300, []byte("x"), false, false, 301)
	takes(t, y, base, 300, []byte("yy"), true, true, 302)
	holds(t, "R8: one of two", x, base, append(stuff(300), 'x'))
	holds(t, "R8: the other", y, base, append(stuff(300), "yy"...))
	x.Clear()
	takes(t, y, base, 302, []byte("z"), true, true, 303)
	holds(t, "R8: one that was cleared", x, api.Base{}, nil)
	holds(t, "R8: one that was not", y, base, append(stuff(300), "yyz"...))
	holds(t, "R8: one of another base", z, neighbors[2], stuff(7))
}
