package dec_test

import (
	"math"
	"math/big"
	"math/rand/v2"
	"testing"

	"bursar/api"
	"bursar/dec"
	"bursar/wide"
)

// The least C and the greatest one.
const (
	leastText = "-170141183460469231731687303715884105728"
	mostText  = "170141183460469231731687303715884105727"
)

var none = api.Dec{}

// ten answers 10^k.
func ten(k int) *big.Int { return new(big.Int).Exp(big.NewInt(10), big.NewInt(int64(k)), nil) }

// whole answers the number of digits.
func whole(t *testing.T, digits string) *big.Int {
	t.Helper()
	n, ok := new(big.Int).SetString(digits, 10)
	if !ok {
		t.Fatalf("%s is no number", digits)
	}
	return n
}

// of answers the decimal with the C of digits, by other means than Parse.
func of(t *testing.T, digits string, scale int) api.Dec {
	t.Helper()
	c, e := wide.Parse(digits)
	if e != api.OK {
		t.Fatalf("%s is no C", digits)
	}
	return api.Dec{C: c, Scale: scale}
}

// unscaled answers the C of a.
func unscaled(a api.Dec) *big.Int {
	n := new(big.Int).Lsh(big.NewInt(a.C.Hi), 64)
	return n.Add(n, new(big.Int).SetUint64(a.C.Lo))
}

// value answers what a stands for: 3.1, C / 10^Scale.
func value(a api.Dec) *big.Rat { return new(big.Rat).SetFrac(unscaled(a), ten(a.Scale)) }

// fits tells whether there is a wide number n.
func fits(n *big.Int) bool {
	_, e := wide.Parse(n.String())
	return e == api.OK
}

// exact fails where a and e are not the decimal n / 10^scale, or, where n is out
// of range, ErrOver and a zero value.
func exact(t *testing.T, what string, a api.Dec, e api.Errno, n *big.Int, scale int, of ...any) {
	t.Helper()
	if !fits(n) {
		if e != api.ErrOver || a != none {
			t.Errorf("%s of %v: %v %d, though %s is out of range", what, of, a, e, n)
		}
		return
	}
	if e != api.OK || a.Scale != scale || unscaled(a).Cmp(n) != 0 {
		t.Errorf("%s of %v: %v %d, not %s with the scale %d", what, of, a, e, n, scale)
	}
}

// refused fails where a and e are not the error f and a zero value.
func refused(t *testing.T, what string, a api.Dec, e, f api.Errno, of ...any) {
	t.Helper()
	if a != none || e != f {
		t.Errorf("%s of %v: %v %d, not the error %d", what, of, a, e, f)
	}
}

// wrong are scales that may not be, some of which come round to one that may.
func wrong() []int {
	return []int{-1, -2, -18, -19, -256, math.MinInt, math.MinInt + 18, math.MinInt32, 19, 20, 36, 37, 255, 256, 1 << 32, math.MaxInt32, math.MaxInt}
}

// edges are Cs around 0, around powers of ten and the limits, with scales at
// both ends and between.
func edges(t *testing.T) (row []api.Dec) {
	t.Helper()
	digits := []string{"0", "1", "-1", "4", "5", "6", "-5", "15", "-15", "25", "50", "-150", "18446744073709551615", "18446744073709551616", "-18446744073709551616", leastText, mostText, "-" + mostText}
	for _, k := range []int{1, 2, 17, 18, 19, 20, 36, 37, 38} {
		for d := int64(-1); d <= 1; d++ {
			n := new(big.Int).Add(ten(k), big.NewInt(d))
			digits = append(digits, n.String(), n.Neg(n).String())
		}
	}
	for _, scale := range []int{0, 1, 2, 9, 17, api.MaxScale} {
		for _, s := range digits {
			row = append(row, of(t, s, scale))
		}
	}
	return row
}

// drawn answers some decimal: all lengths of C and all scales come up alike
// often, and both signs.
func drawn(rnd *rand.Rand) api.Dec {
	c := api.Wide{Hi: int64(rnd.Uint64() >> 1), Lo: rnd.Uint64()}
	for range rnd.IntN(39) {
		c, _, _ = wide.Div(c, wide.Of(10))
	}
	if rnd.IntN(2) == 0 {
		c, _ = wide.Neg(c)
	}
	return api.Dec{C: c, Scale: rnd.IntN(api.MaxScale + 1)}
}

// pairs calls f with each edge and each other, and with many drawn ones.
func pairs(t *testing.T, f func(a, b api.Dec)) {
	t.Helper()
	row := edges(t)
	for _, a := range row {
		for _, b := range row {
			f(a, b)
		}
	}
	rnd := rand.New(rand.NewPCG(3, 1))
	for range 20000 {
		f(drawn(rnd), drawn(rnd))
	}
}

// TestRight: 3.1, a scale from 0 to 18, whatever the C.
func TestRight(t *testing.T) {
	for _, c := range []string{"0", "1", "-1", leastText, mostText} {
		for scale := range 19 {
			if a := of(t, c, scale); !dec.Right(a) {
				t.Errorf("3.1: Right of %v: false", a)
			}
		}
		for _, scale := range wrong() {
			if a := of(t, c, scale); dec.Right(a) {
				t.Errorf("3.1: Right of %v: true", a)
			}
		}
	}
}
