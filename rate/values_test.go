package rate_test

import (
	"math"
	"math/big"
	"math/rand/v2"
	"strings"
	"testing"

	"bursar/api"
	"bursar/rate"
)

// The errors of the chapter, and the scales that may be, written anew.
const (
	overError   api.Errno = 20
	scaleError  api.Errno = 21
	amountError api.Errno = 43
	rateError   api.Errno = 44

	mostScale = 18
)

// The least number that a C may be, the greatest one, and the smallest decimal above 0.
const (
	leastText = "-170141183460469231731687303715884105728"
	mostText  = "170141183460469231731687303715884105727"
	smallText = "0.000000000000000001"
)

var zero = api.Dec{}

// ten answers 10^k.
func ten(k int) *big.Int { return new(big.Int).Exp(big.NewInt(10), big.NewInt(int64(k)), nil) }

// whole answers the number of digits.
func whole(t *testing.T, digits string) *big.Int {
	t.Helper()
	n, ok := new(big.Int).SetString(digits, 10)
	if !ok {
		t.Fatalf("%s is no number", digits)
	}
	return n
}

// fits tells whether a C may be n.
func fits(n *big.Int) bool {
	limit := new(big.Int).Lsh(big.NewInt(1), 127)
	return n.Cmp(limit) < 0 && n.Cmp(new(big.Int).Neg(limit)) >= 0
}

// made answers the decimal of n with a scale, whatever the scale.
func made(t *testing.T, n *big.Int, scale int) api.Dec {
	t.Helper()
	if !fits(n) {
		t.Fatalf("%s is no C", n)
	}
	low := new(big.Int).And(n, new(big.Int).SetUint64(math.MaxUint64))
	high := new(big.Int).Rsh(n, 64)
	return api.Dec{C: api.Wide{Hi: high.Int64(), Lo: low.Uint64()}, Scale: scale}
}

// of answers the decimal with the C of digits, whatever the scale.
func of(t *testing.T, digits string, scale int) api.Dec {
	t.Helper()
	return made(t, whole(t, digits), scale)
}

// num answers the decimal of a text: it has the scale of the digits behind the point.
func num(t *testing.T, text string) api.Dec {
	t.Helper()
	front, back, _ := strings.Cut(text, ".")
	return of(t, front+back, len(back))
}

// unscaled answers the C of a.
func unscaled(a api.Dec) *big.Int {
	n := new(big.Int).Lsh(big.NewInt(a.C.Hi), 64)
	return n.Add(n, new(big.Int).SetUint64(a.C.Lo))
}

// value answers what a stands for, whose scale may be.
func value(a api.Dec) *big.Rat { return new(big.Rat).SetFrac(unscaled(a), ten(a.Scale)) }

// may tells whether there is such a scale.
func may(scale int) bool { return 0 <= scale && scale <= mostScale }

// wrong are scales that may not be, some of which come round to one that may.
func wrong() []int {
	return []int{-1, -2, -18, -19, -256, math.MinInt, math.MinInt + 18, math.MinInt32, 19, 20, 36, 37, 255, 256, 1 << 32, math.MaxInt32, math.MaxInt}
}

// numbers are Cs: 0, around it, around where a half of a C ends, and the limits.
func numbers() []string {
	return []string{
		"0", "1", "-1", "2", "-2", "5", "-5", "10", "-10", "12345", "-12345",
		"9223372036854775807", "9223372036854775808", "-9223372036854775808",
		"18446744073709551615", "18446744073709551616", "18446744073709551617",
		"-18446744073709551615", "-18446744073709551616", "-18446744073709551617",
		mostText, "-" + mostText, leastText,
	}
}

// rightOf is Right as the chapter tells it.
func rightOf(r api.Dec) api.Errno {
	switch {
	case !may(r.Scale):
		return scaleError
	case unscaled(r).Sign() <= 0:
		return rateError
	}
	return 0
}

// crossOf is Cross as the chapter tells it: the C of what it answers, and its error.
func crossOf(amount, r api.Dec, scale int) (*big.Int, api.Errno) {
	switch {
	case !may(amount.Scale) || !may(scale):
		return nil, scaleError
	case unscaled(amount).Sign() <= 0:
		return nil, amountError
	case rightOf(r) != 0:
		return nil, rightOf(r)
	}
	n := nearest(new(big.Rat).Mul(value(amount), value(r)), scale)
	if !fits(n) {
		return nil, overError
	}
	return n, 0
}

// nearest answers the C of x with a scale: the nearest one, the even one of two as near.
func nearest(x *big.Rat, scale int) *big.Int {
	x = new(big.Rat).Mul(x, new(big.Rat).SetInt(ten(scale)))
	n, rest := new(big.Int).DivMod(x.Num(), x.Denom(), new(big.Int))
	over := rest.Lsh(rest, 1).Cmp(x.Denom())
	if over > 0 || over == 0 && n.Bit(0) == 1 {
		n.Add(n, big.NewInt(1))
	}
	return n
}

// crosses fails where Cross is not what the chapter says, and answers the error that
// the chapter asks for.
func crosses(t *testing.T, amount, r api.Dec, scale int) api.Errno {
	t.Helper()
	a, e := rate.Cross(amount, r, scale)
	n, want := crossOf(amount, r, scale)
	switch {
	case want != 0:
		refused(t, a, e, want, amount, r, scale)
	case e != 0 || a.Scale != scale || unscaled(a).Cmp(n) != 0:
		t.Errorf("18.1: Cross of %v, %v and %d: %v %d, not %s with that scale", amount, r, scale, a, e, n)
	}
	return want
}

// refused fails where a and e are not an error and a zero value.
func refused(t *testing.T, a api.Dec, e, want api.Errno, amount, r api.Dec, scale int) {
	t.Helper()
	if a != zero || e != want {
		t.Errorf("18.1: Cross of %v, %v and %d: %v %d, not the error %d", amount, r, scale, a, e, want)
	}
}

// drawn answers some decimal above 0: all lengths of C and all scales come up alike
// often.
func drawn(t *testing.T, rnd *rand.Rand) api.Dec {
	t.Helper()
	n := unscaled(api.Dec{C: api.Wide{Hi: int64(rnd.Uint64() >> 1), Lo: rnd.Uint64()}})
	n.Rsh(n, uint(rnd.IntN(127)))
	if n.Sign() == 0 {
		n.SetInt64(1)
	}
	return made(t, n, rnd.IntN(mostScale+1))
}
