package chunk_test

import (
	"testing"

	"bursar/api"
	"bursar/chunk"
)

// TestNewTaker: 16.1, a new Taker has the zero base and no bytes.
func TestNewTaker(t *testing.T) {
	x := chunk.NewTaker()
	if x == nil || x.Base() != (api.Base{}) || len(x.Data()) != 0 {
		t.Fatal("16.1: a new Taker is not empty")
	}
	holds(t, "a new Taker", x, api.Base{}, nil)
	takes(t, x, api.Base{}, 0, []byte("a"), true, true, 1)
	holds(t, "a piece of the zero base", x, api.Base{}, []byte("a"))
}

// TestClear: 16.1, it sets the base to zero and takes the bytes away, of any Taker.
func TestClear(t *testing.T) {
	for _, b := range append(append([]api.Base{{}, base}, neighbors...), strange...) {
		for _, n := range []int{0, 1, mostPiece, mostImage} {
			x := filled(t, b, stuff(n))
			x.Clear()
			holds(t, "behind Clear", x, api.Base{}, nil)
			x.Clear()
			holds(t, "behind two", x, api.Base{}, nil)
			takes(t, x, b, n+1, []byte("a"), true, false, 0)
			holds(t, "a piece behind Clear where the bytes ended", x, b, nil)
			takes(t, x, b, 0, stuff(mostImage), false, false, mostImage)
			holds(t, "the most bytes behind Clear", x, b, stuff(mostImage))
		}
	}
	x := chunk.NewTaker()
	x.Clear()
	holds(t, "Clear of a new Taker", x, api.Base{}, nil)
	takes(t, x, base, 0, []byte("ab"), true, true, 2)
	holds(t, "a piece behind it", x, base, []byte("ab"))
}

// TestClearOfZeroBase: 16.1, bytes of the zero base go too.
func TestClearOfZeroBase(t *testing.T) {
	x := filled(t, api.Base{}, []byte("ab"))
	takes(t, x, api.Base{}, 2, []byte("c"), false, false, 3)
	x.Clear()
	takes(t, x, api.Base{}, 3, []byte("d"), true, false, 0)
	takes(t, x, api.Base{}, 0, []byte("d"), true, true, 1)
	holds(t, "the zero base behind Clear", x, api.Base{}, []byte("d"))
}

// TestClearAfterRefused: 16.1, a base that came with a refused piece goes too.
func TestClearAfterRefused(t *testing.T) {
	x := filled(t, base, []byte("ab"))
	takes(t, x, neighbors[1], 7, []byte("c"), true, false, 0)
	x.Clear()
	holds(t, "Clear behind a refused piece", x, api.Base{}, nil)
}
