package wide_test

import (
	"math"
	"math/big"
	"testing"

	"bursar/api"
	"bursar/wide"
)

// TestOf: 2.1, a small number with its sign.
func TestOf(t *testing.T) {
	for n, want := range map[int64]api.Wide{
		0: {}, 1: {Lo: 1}, -1: {Hi: -1, Lo: 1<<64 - 1}, 7: {Lo: 7}, -7: {Hi: -1, Lo: 1<<64 - 7},
		math.MaxInt64: {Lo: 1<<63 - 1}, math.MinInt64: {Hi: -1, Lo: 1 << 63},
	} {
		if a := wide.Of(n); a != want || valued(a).Cmp(big.NewInt(n)) != 0 {
			t.Errorf("2.1: Of(%d): %v", n, a)
		}
	}
}

// TestOrder: 2.1, signs, and which of two is less.
func TestOrder(t *testing.T) {
	pairs(func(a, b api.Wide) {
		if s := wide.Sign(a); s != valued(a).Sign() {
			t.Errorf("2.1: Sign of %v: %d", a, s)
		}
		if c := wide.Cmp(a, b); c != valued(a).Cmp(valued(b)) {
			t.Errorf("2.1: Cmp of %v and %v: %d", a, b, c)
		}
	})
	// Both halves weigh, the lower one without a sign, in all four corners.
	row := []api.Wide{least, {Hi: -2, Lo: 1<<64 - 1}, {Hi: -1}, {Hi: -1, Lo: 1 << 63}, {Hi: -1, Lo: 1<<64 - 1}, {}, {Lo: 1}, {Lo: 1 << 63}, {Lo: 1<<64 - 1}, {Hi: 1}, most}
	for i, a := range row {
		if s := wide.Sign(a); s != min(1, max(-1, i-5)) {
			t.Errorf("2.1: Sign of %v: %d", a, s)
		}
		for k, b := range row {
			if c := wide.Cmp(a, b); c != min(1, max(-1, i-k)) {
				t.Errorf("2.1: Cmp of %v and %v: %d", a, b, c)
			}
		}
	}
}

// TestSums: 2.1, what comes is exact, or ErrOver.
func TestSums(t *testing.T) {
	pairs(func(a, b api.Wide) {
		x, y := valued(a), valued(b)
		n, e := wide.Neg(a)
		exact(t, "2.1: Neg", n, e, new(big.Int).Neg(x), a)
		n, e = wide.Add(a, b)
		exact(t, "2.1: Add", n, e, new(big.Int).Add(x, y), a, b)
		n, e = wide.Sub(a, b)
		exact(t, "2.1: Sub", n, e, new(big.Int).Sub(x, y), a, b)
		n, e = wide.Mul(a, b)
		exact(t, "2.1: Mul", n, e, new(big.Int).Mul(x, y), a, b)
	})
}

// TestSumsAtLimits: 2.1, the last number that has a place, and the first that has none.
func TestSumsAtLimits(t *testing.T) {
	neg := func(a, _ api.Wide) (api.Wide, api.Errno) { return wide.Neg(a) }
	one, minusOne := wide.Of(1), wide.Of(-1)
	half, root := api.Wide{Lo: 1 << 63}, api.Wide{Hi: 1}
	for _, c := range []struct {
		what string
		do   func(a, b api.Wide) (api.Wide, api.Errno)
		a, b api.Wide
		want api.Wide
		e    api.Errno
	}{
		{"Neg", neg, none, none, none, api.OK},
		{"Neg", neg, least, none, none, api.ErrOver},
		{"Neg", neg, most, none, api.Wide{Hi: -1 << 63, Lo: 1}, api.OK},
		{"Neg", neg, api.Wide{Hi: -1 << 63, Lo: 1}, none, most, api.OK},
		{"Neg", neg, root, none, api.Wide{Hi: -1}, api.OK},
		{"Add", wide.Add, most, one, none, api.ErrOver},
		{"Add", wide.Add, most, none, most, api.OK},
		{"Add", wide.Add, most, most, none, api.ErrOver},
		{"Add", wide.Add, least, minusOne, none, api.ErrOver},
		{"Add", wide.Add, least, least, none, api.ErrOver},
		{"Add", wide.Add, least, most, minusOne, api.OK},
		{"Add", wide.Add, api.Wide{Lo: 1<<64 - 1}, one, root, api.OK},
		{"Sub", wide.Sub, none, least, none, api.ErrOver},
		{"Sub", wide.Sub, minusOne, least, most, api.OK},
		{"Sub", wide.Sub, least, least, none, api.OK},
		{"Sub", wide.Sub, least, one, none, api.ErrOver},
		{"Sub", wide.Sub, most, minusOne, none, api.ErrOver},
		{"Sub", wide.Sub, most, least, none, api.ErrOver},
		{"Sub", wide.Sub, least, most, none, api.ErrOver},
		{"Sub", wide.Sub, root, one, api.Wide{Lo: 1<<64 - 1}, api.OK},
		{"Mul", wide.Mul, half, half, api.Wide{Hi: 1 << 62}, api.OK},
		{"Mul", wide.Mul, root, half, none, api.ErrOver},
		{"Mul", wide.Mul, root, wide.Of(-1 << 63), least, api.OK},
		{"Mul", wide.Mul, least, one, least, api.OK},
		{"Mul", wide.Mul, least, minusOne, none, api.ErrOver},
		{"Mul", wide.Mul, least, none, none, api.OK},
		{"Mul", wide.Mul, least, least, none, api.ErrOver},
		{"Mul", wide.Mul, most, minusOne, api.Wide{Hi: -1 << 63, Lo: 1}, api.OK},
		// In 128 bits these come round to 0, and to 1.
		{"Mul", wide.Mul, root, root, none, api.ErrOver},
		{"Mul", wide.Mul, most, most, none, api.ErrOver},
	} {
		a, e := c.do(c.a, c.b)
		if a != c.want || e != c.e {
			t.Errorf("2.1: %s of %v and %v: %v %d", c.what, c.a, c.b, a, e)
		}
	}
}
