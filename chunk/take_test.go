package chunk_test

import (
	"bytes"
	"math"
	"testing"

	"bursar/api"
	"bursar/chunk"
)

// TestTakeExample: 16.1, the chapter's example.
func TestTakeExample(t *testing.T) {
	x := chunk.NewTaker()
	takes(t, x, base, 0, []byte("ab"), false, false, 2)
	takes(t, x, base, 0, []byte("ab"), false, false, 2)
	takes(t, x, base, 2, []byte("c"), true, true, 3)
	holds(t, "the example", x, base, []byte("abc"))
}

// TestTakeFirst: 16.1, the first piece of a new Taker, of the zero base and of others,
// which need not be those of snapshots.
func TestTakeFirst(t *testing.T) {
	for _, b := range append(append([]api.Base{{}, base}, neighbors...), strange...) {
		for _, part := range [][]byte{nil, {}, []byte("a"), stuff(mostPiece)} {
			x := chunk.NewTaker()
			takes(t, x, b, 0, part, false, false, len(part))
			holds(t, "a first piece", x, b, part)
			x = chunk.NewTaker()
			takes(t, x, b, 0, part, true, true, len(part))
			holds(t, "an only piece", x, b, part)
			x = chunk.NewTaker()
			takes(t, x, b, 1, part, true, false, 0)
			holds(t, "a first piece that is refused", x, b, nil)
		}
	}
}

// TestTakeOtherBase: 16.1, a base that differs in one thing alone: what there was goes,
// whether the piece is taken or refused, and also where the piece would have followed.
func TestTakeOtherBase(t *testing.T) {
	for _, b := range append(append([]api.Base{{}}, neighbors...), strange...) {
		x := filled(t, base, []byte("abc"))
		takes(t, x, b, 0, []byte("de"), false, false, 2)
		holds(t, "another base", x, b, []byte("de"))
		takes(t, x, base, 0, []byte("f"), true, true, 1)
		holds(t, "the base from before", x, base, []byte("f"))
		for _, offset := range []int{math.MinInt, -1, 1, 2, 3, 4, math.MaxInt} {
			x := filled(t, base, []byte("abc"))
			takes(t, x, b, offset, []byte("de"), true, false, 0)
			holds(t, "another base, refused for its offset", x, b, nil)
			takes(t, x, base, 3, []byte("d"), true, false, 0)
			holds(t, "the base from before, where it was", x, base, nil)
		}
		x = filled(t, base, []byte("abc"))
		takes(t, x, b, 0, stuff(mostImage+1), true, false, 0)
		holds(t, "another base, refused for its length", x, b, nil)
		takes(t, x, b, 0, stuff(mostImage), true, true, mostImage)
		holds(t, "another base, of the most bytes", x, b, stuff(mostImage))
	}
}

// TestTakeFullOtherBase: 16.1, the bytes that go are not reckoned with those that come.
func TestTakeFullOtherBase(t *testing.T) {
	for _, b := range neighbors {
		x := filled(t, base, stuff(mostImage))
		takes(t, x, b, mostImage, nil, true, false, 0)
		holds(t, "another base behind a full Taker", x, b, nil)
		x = filled(t, base, stuff(mostImage))
		takes(t, x, b, 0, []byte("a"), false, false, 1)
		takes(t, x, b, 1, []byte("b"), true, true, 2)
		holds(t, "another base in place of a full Taker", x, b, []byte("ab"))
	}
}

// TestTakeOffset: 16.1, only a piece where the bytes end is taken; of others nothing.
func TestTakeOffset(t *testing.T) {
	for _, n := range []int{0, 1, 2, 3, 255, 256, 257, 512, mostImage - 300} {
		data := stuff(n)
		for _, offset := range []int{
			math.MinInt, math.MinInt + 1, -mostImage, -n, -256, -1, 0, 1, 2, n - 256, n - 1, n, n + 1, n + 256,
			n + 1<<32, n - 1<<32, mostImage, math.MaxInt - 256, math.MaxInt,
		} {
			for _, last := range []bool{false, true} {
				for _, part := range [][]byte{nil, []byte("a"), stuff(mostPiece)} {
					x := filled(t, base, data)
					if offset == n {
						takes(t, x, base, offset, part, last, last, n+len(part))
						holds(t, "a piece that follows", x, base, append(stuff(n), part...))
						continue
					}
					takes(t, x, base, offset, part, last, false, n)
					holds(t, "a piece that does not follow", x, base, data)
					takes(t, x, base, n, []byte("z"), true, true, n+1)
					holds(t, "one that follows, behind it", x, base, append(stuff(n), 'z'))
				}
			}
		}
	}
}

// TestTakeLength: 16.1, a piece may have any bytes, also none, and more than Cut answers.
func TestTakeLength(t *testing.T) {
	x := chunk.NewTaker()
	var all []byte
	for _, n := range []int{0, 1, 0, 255, mostPiece, mostPiece + 1, 1000, 0, 4096} {
		part := stuff(n)
		takes(t, x, base, len(all), part, n%2 == 1, n%2 == 1, len(all)+n)
		all = append(all, part...)
		holds(t, "pieces of many lengths", x, base, all)
	}
}

// TestTakeFull: 16.1, a Taker that has the most bytes takes no more of them, but a piece
// of none.
func TestTakeFull(t *testing.T) {
	for _, size := range []int{1, 7, mostPiece, 1000, mostImage - 1, mostImage} {
		data := stuff(mostImage)
		x := chunk.NewTaker()
		for offset := 0; offset < mostImage; offset += size {
			end := min(offset+size, mostImage)
			takes(t, x, base, offset, data[offset:end], end == mostImage, end == mostImage, end)
		}
		holds(t, "a full Taker", x, base, data)
		for _, part := range [][]byte{[]byte("a"), []byte("ab"), stuff(mostPiece), stuff(mostImage), stuff(mostImage + 1)} {
			takes(t, x, base, mostImage, part, true, false, mostImage)
			takes(t, x, base, mostImage, part, false, false, mostImage)
			holds(t, "one more piece", x, base, data)
		}
		takes(t, x, base, mostImage, nil, false, false, mostImage)
		takes(t, x, base, mostImage, []byte{}, true, true, mostImage)
		holds(t, "a piece of no bytes", x, base, data)
	}
}

// TestTakeTooMuch: 16.1, a piece with which there would be too many bytes is refused as a
// whole; one that just has room is taken then.
func TestTakeTooMuch(t *testing.T) {
	for _, n := range []int{0, 1, 255, 256, 257, mostImage / 2, mostImage - 257, mostImage - 256, mostImage - 255, mostImage - 1} {
		data, room := stuff(n), mostImage-n
		x := filled(t, base, data)
		for _, much := range []int{room + 1, room + 2, room + 256, mostImage + 1, 2*mostImage + 1} {
			takes(t, x, base, n, stuff(much), true, false, n)
			holds(t, "a piece that has no room", x, base, data)
		}
		takes(t, x, base, n, stuff(room), true, true, mostImage)
		holds(t, "a piece that just has room", x, base, append(stuff(n), stuff(room)...))
	}
}

// TestTakeFirstTooMuch: 16.1, of a new Taker: the base is told, the bytes are not there.
func TestTakeFirstTooMuch(t *testing.T) {
	for _, b := range []api.Base{{}, base} {
		x := chunk.NewTaker()
		takes(t, x, b, 0, stuff(mostImage+1), true, false, 0)
		holds(t, "a first piece of one byte too many", x, b, nil)
		takes(t, x, b, 0, stuff(mostImage), false, false, mostImage)
		holds(t, "a first piece of the most bytes", x, b, stuff(mostImage))
	}
}

// TestTakeBehindLast: 16.1, a Taker does not keep that a piece was the last one: pieces
// that follow are taken, and what Take answers is told by each piece alone.
func TestTakeBehindLast(t *testing.T) {
	x := chunk.NewTaker()
	var all []byte
	for k, last := range []bool{true, false, true, true, false, false, true} {
		part := bytes.Repeat([]byte{byte('a' + k)}, k)
		takes(t, x, base, len(all), part, last, last, len(all)+k)
		all = append(all, part...)
		takes(t, x, base, len(all)+1, part, true, false, len(all))
		takes(t, x, base, -1, part, true, false, len(all))
		holds(t, "behind a last piece", x, base, all)
	}
	takes(t, x, base, 0, []byte("a"), true, false, len(all))
	takes(t, x, neighbors[0], 0, []byte("b"), false, false, 1)
	holds(t, "another base behind a last piece", x, neighbors[0], []byte("b"))
}
