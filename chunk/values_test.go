package chunk_test

import (
	"bytes"
	"math"
	"testing"

	"bursar/api"
	"bursar/chunk"
)

// What the chapter and api tell in words, written anew.
const (
	mostPiece = 256
	mostImage = 32768
)

// The chapter's example, and bases that are each of them another in one thing alone.
var (
	base      = api.Base{Index: 4, Term: 2, Conf: 14}
	neighbors = []api.Base{{Index: 5, Term: 2, Conf: 14}, {Index: 4, Term: 3, Conf: 14}, {Index: 4, Term: 2, Conf: 6}}
)

// strange are bases that no snapshot has: a Taker does not ask for that.
var strange = []api.Base{
	{Index: 1}, {Term: 1}, {Conf: 1}, {Conf: -1}, {Conf: math.MinInt}, {Conf: math.MaxInt},
	{Index: math.MaxUint64, Term: math.MaxUint64, Conf: 255}, {Index: 4 + 1<<32, Term: 2, Conf: 14}, {Index: 2, Term: 4, Conf: 14},
}

// stuff answers n bytes of which no two pieces are alike.
func stuff(n int) []byte {
	b := make([]byte, n)
	x := uint32(7)
	for i := range b {
		x = x*1664525 + 1013904223
		b[i] = byte(x >> 24)
	}
	return b
}

// cutAnew answers what Cut must, byte by byte.
func cutAnew(data []byte, offset int) (part []byte, last, ok bool) {
	for i, x := range data {
		if i >= offset && len(part) < mostPiece {
			part = append(part, x)
		}
	}
	if offset < 0 || offset > len(data) {
		return nil, false, false
	}
	return part, offset+len(part) == len(data), true
}

// model is what a Taker must be: each piece that it took, as it was handed in.
type model struct {
	base   api.Base
	pieces [][]byte
}

func (m *model) data() []byte { return bytes.Join(m.pieces, nil) }

func (m *model) take(base api.Base, offset int, part []byte, last bool) (bool, int) {
	if base.Index != m.base.Index || base.Term != m.base.Term || base.Conf != m.base.Conf {
		*m = model{base: base}
	}
	have := len(m.data())
	if offset == have && have+len(part) <= mostImage {
		m.pieces = append(m.pieces, bytes.Clone(part))
		return last, have + len(part)
	}
	return false, have
}

// cuts fails where Cut answers anything but what it must.
func cuts(t *testing.T, data []byte, offset int) {
	t.Helper()
	part, last, ok := chunk.Cut(data, offset)
	p, l, o := cutAnew(data, offset)
	if !bytes.Equal(part, p) || last != l || ok != o {
		t.Errorf("16.1: Cut of %d bytes at %d: %d bytes %t %t, not %d bytes %t %t", len(data), offset, len(part), last, ok, len(p), l, o)
	}
}

// takes fails where Take answers anything but what is given.
func takes(t *testing.T, x *chunk.Taker, base api.Base, offset int, part []byte, last, done bool, have int) {
	t.Helper()
	if d, h := x.Take(base, offset, part, last); d != done || h != have {
		t.Errorf("16.1: Take(%v, %d, %d bytes, %t): %t %d, not %t %d", base, offset, len(part), last, d, h, done, have)
	}
}

// holds fails where x has another base or other bytes.
func holds(t *testing.T, what string, x *chunk.Taker, base api.Base, data []byte) {
	t.Helper()
	if got := x.Base(); got != base {
		t.Errorf("16.1: %s: Base: %v, not %v", what, got, base)
	}
	if got := x.Data(); !bytes.Equal(got, data) {
		t.Errorf("16.1: %s: Data: %d bytes that are not the %d", what, len(got), len(data))
	}
	// A piece that is refused asks how many bytes there are, and changes nothing.
	if done, have := x.Take(base, -1, []byte("?"), true); done || have != len(data) {
		t.Errorf("16.1: %s: Take at -1: %t %d, not %d", what, done, have, len(data))
	}
}

// filled answers a Taker that has taken data in one piece that was not the last.
func filled(t *testing.T, base api.Base, data []byte) *chunk.Taker {
	t.Helper()
	x := chunk.NewTaker()
	takes(t, x, base, 0, data, false, false, len(data))
	return x
}
