package chunk_test

import (
	"bytes"
	"math/rand/v2"
	"testing"

	"bursar/api"
	"bursar/chunk"
)

// between is something that is done to a Taker between two pieces that are asked for. It
// answers the offset that the next one is asked for at, of which have was told last.
type between func(x *chunk.Taker, data []byte, have int) int

// fetch passes the piece at the offset that was told last again and again, beginning with
// 0, for so many rounds at most, and fails where x does not have the whole data then.
func fetch(t *testing.T, what string, x *chunk.Taker, data []byte, rounds int, also between) {
	t.Helper()
	have, done := 0, false
	for k := 0; k < rounds && !done; k++ {
		part, last, ok := chunk.Cut(data, have)
		if !ok {
			t.Fatalf("16.2: %s: of %d bytes, Take asks for those at %d", what, len(data), have)
		}
		if done, have = x.Take(base, have, part, last); !done {
			have = also(x, data, have)
		}
	}
	if !done || have != len(data) || !bytes.Equal(x.Data(), data) {
		t.Fatalf("16.2: %s: of %d bytes, %d in %d rounds: %t", what, len(data), have, rounds, done)
	}
	holds(t, "16.2: "+what, x, base, data)
}

// pieces answers how many full pieces data of n bytes has, and one for the last.
func pieces(n int) int { return n/mostPiece + 1 }

func nothing(_ *chunk.Taker, _ []byte, have int) int { return have }

// lengths are those of data that are worth a run.
func lengths() []int {
	some := []int{1000, 5000, mostImage - 257, mostImage - 256, mostImage - 255, mostImage - 1, mostImage}
	for n := range 3*mostPiece + 2 {
		some = append(some, n)
	}
	return some
}

// TestWhole: 16.2, data of any length, in no more rounds than it has pieces.
func TestWhole(t *testing.T) {
	for _, n := range lengths() {
		fetch(t, "a new Taker", chunk.NewTaker(), stuff(n), pieces(n), nothing)
	}
}

// TestWholeOfPart: 16.2, also where the Taker has some of it already, or all.
func TestWholeOfPart(t *testing.T) {
	for _, n := range []int{0, 1, 300, 1000, mostImage} {
		for _, part := range []int{0, 1, 255, 256, 257, n - 1, n} {
			if part >= 0 && part <= n {
				data := stuff(n)
				fetch(t, "a part is there", filled(t, base, data[:part]), data, pieces(n)+1, nothing)
			}
		}
	}
}

// TestWholeAfterOther: 16.2, also where it has those of another base.
func TestWholeAfterOther(t *testing.T) {
	for _, b := range append(append([]api.Base{{}}, neighbors...), strange...) {
		for _, n := range []int{0, 1, 256, 300, mostImage} {
			fetch(t, "bytes of another base", filled(t, b, bytes.Repeat([]byte("x"), n)), stuff(n), pieces(n), nothing)
		}
	}
}

// TestWholeDoubled: 16.2, each piece comes twice, and the first one comes with each.
func TestWholeDoubled(t *testing.T) {
	for _, n := range lengths() {
		fetch(t, "pieces twice", chunk.NewTaker(), stuff(n), pieces(n), func(x *chunk.Taker, data []byte, have int) int {
			for _, offset := range []int{max(0, have-mostPiece), 0} {
				part, last, _ := chunk.Cut(data, offset)
				if done, h := x.Take(base, offset, part, last); done || h != have {
					t.Fatalf("16.2: a piece that x has: %t %d, not %d", done, h, have)
				}
			}
			return have
		})
	}
}

// TestWholeAhead: 16.2, pieces from the end on come ahead of their turn, and are refused.
func TestWholeAhead(t *testing.T) {
	for _, n := range lengths() {
		fetch(t, "pieces ahead", chunk.NewTaker(), stuff(n), pieces(n), func(x *chunk.Taker, data []byte, have int) int {
			for _, offset := range []int{have + 1, have + mostPiece, len(data)} {
				part, last, ok := chunk.Cut(data, offset)
				if !ok || offset == have {
					continue
				}
				if done, h := x.Take(base, offset, part, last); done || h != have {
					t.Fatalf("16.2: a piece ahead: %t %d, not %d", done, h, have)
				}
			}
			return have
		})
	}
}

// drawnPieces answers a between that passes drawn pieces of the data, of any length, of which
// some follow. Where knows is set, what Take told of them is heeded for the next offset.
func drawnPieces(rnd *rand.Rand, knows bool) between {
	return func(x *chunk.Taker, data []byte, have int) int {
		next := have
		for range rnd.IntN(5) {
			offset := rnd.IntN(len(data) + 1)
			if rnd.IntN(2) == 0 {
				offset = next
			}
			end := min(len(data), offset+rnd.IntN(mostPiece+1))
			_, next = x.Take(base, offset, data[offset:end], end == len(data))
		}
		if knows {
			return next
		}
		return have
	}
}

// TestWholeDrawn: 16.2, drawn pieces in between, whether or not who asks hears of them. To
// one who does not, the next answer tells it: a round goes for that, but a byte has come.
func TestWholeDrawn(t *testing.T) {
	rnd := rand.New(rand.NewPCG(16, 2))
	for range 1500 {
		n := rnd.IntN(2000)
		if rnd.IntN(40) == 0 {
			n = mostImage - rnd.IntN(2)
		}
		fetch(t, "drawn pieces that are known", chunk.NewTaker(), stuff(n), pieces(n), drawnPieces(rnd, true))
		fetch(t, "drawn pieces", chunk.NewTaker(), stuff(n), pieces(n)+n+1, drawnPieces(rnd, false))
	}
}
