package dec_test

import (
	"math/big"
	"strconv"
	"testing"

	"bursar/api"
	"bursar/dec"
)

// widened answers the C that a has with a scale that is not less.
func widened(a api.Dec, scale int) *big.Int {
	n := unscaled(a)
	return n.Mul(n, ten(scale-a.Scale))
}

// sums fails where Add or Sub of a and b is not what the chapter says.
func sums(t *testing.T, a, b api.Dec) {
	t.Helper()
	scale := max(a.Scale, b.Scale)
	x, y := widened(a, scale), widened(b, scale)
	add, sub := new(big.Int).Add(x, y), new(big.Int).Sub(x, y)
	// A part without a place makes the whole out of range, even if the sum is not.
	if !fits(x) || !fits(y) {
		add, sub = ten(39), ten(39)
	}
	n, e := dec.Add(a, b)
	exact(t, "3.1: Add", n, e, add, scale, a, b)
	n, e = dec.Sub(a, b)
	exact(t, "3.1: Sub", n, e, sub, scale, a, b)
}

// TestSums: 3.1, edges and drawn numbers.
func TestSums(t *testing.T) {
	pairs(t, func(a, b api.Dec) { sums(t, a, b) })
}

// TestSumsOf: 3.1, the chapter's sums and others, and what has no place.
func TestSumsOf(t *testing.T) {
	const over = "over"
	for _, c := range []struct {
		a        string
		scaleA   int
		b        string
		scaleB   int
		add, sub string
		scale    int
	}{
		{"15", 1, "225", 2, "375", "-75", 2},
		{"1", 0, "1", 2, "101", "99", 2},
		{"1", 2, "1", 0, "101", "-99", 2},
		{"5", 1, "5", 1, "10", "0", 1},
		{"100", 2, "0", 0, "100", "100", 2},
		{"-3", 0, "3", 18, "-2999999999999999997", "-3000000000000000003", 18},
		{"0", 0, "0", 18, "0", "0", 18},
		{mostText, 0, "0", 0, mostText, mostText, 0},
		{mostText, 18, leastText, 18, "-1", over, 18},
		{leastText, 7, leastText, 7, over, "0", 7},
		{"-1", 3, leastText, 3, over, mostText, 3},
		{"0", 0, leastText, 0, leastText, over, 0},
		{mostText, 0, "1", 0, over, "170141183460469231731687303715884105726", 0},
		{mostText, 0, "0", 1, over, over, 1},
		{"0", 1, mostText, 0, over, over, 1},
		{leastText, 0, "0", 1, over, over, 1},
		{mostText, 17, "0", 18, over, over, 18},
		// The sum, or the difference, would have a place; one of the parts has none.
		{"20000000000000000000000000000000000000", 0, "-100000000000000000000000000000000000000", 1, over, over, 1},
		{"100000000000000000000000000000000000000", 1, "20000000000000000000000000000000000000", 0, over, over, 1},
		{"17014118346046923173168730371588410572", 0, "7", 1, mostText, "170141183460469231731687303715884105713", 1},
		{"17014118346046923173168730371588410572", 0, "8", 1, over, "170141183460469231731687303715884105712", 1},
		{"-17014118346046923173168730371588410572", 0, "8", 1, "-170141183460469231731687303715884105712", leastText, 1},
		{"-17014118346046923173168730371588410572", 0, "9", 1, "-170141183460469231731687303715884105711", over, 1},
		{"17014118346046923173168730371588410573", 0, "0", 1, over, over, 1},
	} {
		a, b := of(t, c.a, c.scaleA), of(t, c.b, c.scaleB)
		n, e := dec.Add(a, b)
		told(t, "3.1: Add", n, e, c.add, c.scale, a, b)
		n, e = dec.Sub(a, b)
		told(t, "3.1: Sub", n, e, c.sub, c.scale, a, b)
		sums(t, a, b)
	}
}

// told fails where a and e are not the digits of C and its scale, or ErrOver
// where these are none.
func told(t *testing.T, what string, a api.Dec, e api.Errno, digits string, scale int, given ...any) {
	t.Helper()
	if digits == "over" {
		refused(t, what, a, e, api.ErrOver, given...)
		return
	}
	if want := of(t, digits, scale); a != want || e != api.OK {
		t.Errorf("%s of %v: %v %d, not %v", what, given, a, e, want)
	}
}

// TestNeg: 3.1, the other sign and the same scale.
func TestNeg(t *testing.T) {
	pairs(t, func(a, _ api.Dec) {
		n, e := dec.Neg(a)
		exact(t, "3.1: Neg", n, e, new(big.Int).Neg(unscaled(a)), a.Scale, a)
	})
	for scale := range 19 {
		for from, to := range map[string]string{"5": "-5", "-5": "5", "0": "0", mostText: "-" + mostText, "-" + mostText: mostText, leastText: "over"} {
			n, e := dec.Neg(of(t, from, scale))
			told(t, "3.1: Neg", n, e, to, scale, from, scale)
		}
	}
}

// compares fails where Cmp of a and b is not what the numbers are.
func compares(t *testing.T, a, b api.Dec) {
	t.Helper()
	if n, e := dec.Cmp(a, b); n != value(a).Cmp(value(b)) || e != api.OK {
		t.Errorf("3.1: Cmp of %v and %v: %d %d", a, b, n, e)
	}
}

// TestCmp: 3.1, edges and drawn numbers, also those that have no C in common.
func TestCmp(t *testing.T) {
	pairs(t, func(a, b api.Dec) { compares(t, a, b) })
}

// TestCmpOf: 3.1, rows of alike numbers, each row above the one before it.
func TestCmpOf(t *testing.T) {
	type row []api.Dec
	rows := []row{
		{of(t, leastText, 0)},
		{of(t, "-"+mostText, 0)},
		{of(t, "-2", 0), of(t, "-20", 1), of(t, "-2000000000000000000", 18)},
		{of(t, "-1000000000000000001", 18)},
		{of(t, "-1", 0), of(t, "-10", 1), of(t, "-1000000000000000000", 18)},
		{of(t, "-999999999999999999", 18)},
		{of(t, "-1", 1), of(t, "-10", 2)},
		{of(t, "-9", 2)},
		{of(t, "-1", 18)},
		{of(t, "0", 0), of(t, "0", 1), of(t, "0", 18)},
		{of(t, "1", 18)},
		{of(t, "9", 2)},
		{of(t, "1", 1), of(t, "10", 2)},
		{of(t, "999999999999999999", 18)},
		{of(t, "1", 0), of(t, "100", 2), of(t, "1000000000000000000", 18)},
		{of(t, "1000000000000000001", 18)},
		{of(t, "15", 1), of(t, "150", 2)},
		{of(t, mostText, 18)},
		{of(t, "170141183460469231732", 0)},
		{of(t, mostText, 1)},
		{of(t, "17014118346046923173168730371588410573", 0)},
		{of(t, mostText, 0)},
	}
	for i, low := range rows {
		for k, high := range rows {
			want := min(1, max(-1, i-k))
			for _, a := range low {
				for _, b := range high {
					if n, e := dec.Cmp(a, b); n != want || e != api.OK {
						t.Errorf("3.1: Cmp of %v and %v: %d %d, not %d", a, b, n, e, want)
					}
				}
			}
		}
	}
}

// TestCmpNear: 3.1, a number, and the least that may be more or less at each
// other scale.
func TestCmpNear(t *testing.T) {
	for scale := range 19 {
		for finer := scale; finer <= api.MaxScale; finer++ {
			for _, v := range []int64{-12, -10, -1, 0, 1, 10, 12} {
				a := of(t, strconv.FormatInt(v, 10), scale)
				for d := int64(-1); d <= 1; d++ {
					n := new(big.Int).Add(widened(a, finer), big.NewInt(d))
					b := of(t, n.String(), finer)
					compares(t, a, b)
					compares(t, b, a)
				}
			}
		}
	}
}

// TestSumsBack: 3.4, what Add added Sub subtracts.
func TestSumsBack(t *testing.T) {
	pairs(t, func(a, b api.Dec) {
		sum, e := dec.Add(a, b)
		if e != api.OK {
			return
		}
		back, e := dec.Sub(sum, b)
		exact(t, "3.4: Sub of a sum", back, e, widened(a, sum.Scale), sum.Scale, a, b)
		if n, e := dec.Cmp(back, a); n != 0 || e != api.OK {
			t.Errorf("3.4: %v and %v make %v, and back %v", a, b, sum, back)
		}
	})
}
