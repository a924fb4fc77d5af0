package wide_test

import (
	"math/big"
	"math/rand/v2"
	"testing"

	"bursar/api"
	"bursar/wide"
)

// TestDivs: 2.2, the chapter's quotients and others, at the limits too.
func TestDivs(t *testing.T) {
	for _, c := range []struct {
		a, b, q, r string
	}{
		{"-7", "2", "-3", "-1"},
		{"7", "-2", "-3", "1"},
		{"-7", "-2", "3", "-1"},
		{"7", "2", "3", "1"},
		{"6", "-2", "-3", "0"},
		{"0", "-5", "0", "0"},
		{"-1", "2", "0", "-1"},
		{leastText, "1", leastText, "0"},
		{leastText, leastText, "1", "0"},
		{leastText, mostText, "-1", "-1"},
		{mostText, leastText, "0", mostText},
		{mostText, "-1", "-" + mostText, "0"},
		{leastText, "2", "-85070591730234615865843651857942052864", "0"},
		{mostText, "18446744073709551615", "9223372036854775808", "9223372036854775807"},
		{mostText, "18446744073709551616", "9223372036854775807", "18446744073709551615"},
		{mostText, "18446744073709551617", "9223372036854775807", "9223372036854775808"},
	} {
		q, r, e := wide.Div(number(t, c.a), number(t, c.b))
		if q != number(t, c.q) || r != number(t, c.r) || e != api.OK {
			t.Errorf("2.2: Div of %s and %s: %v, %v %d", c.a, c.b, q, r, e)
		}
	}
}

// TestDivErrors: 2.2, what has no quotient.
func TestDivErrors(t *testing.T) {
	for _, a := range append(edges(), wide.Of(1)) {
		q, r, e := wide.Div(a, none)
		if q != none || r != none || e != api.ErrZero {
			t.Errorf("2.2: Div of %v and 0: %v, %v %d", a, q, r, e)
		}
	}
	q, r, e := wide.Div(least, wide.Of(-1))
	if q != none || r != none || e != api.ErrOver {
		t.Errorf("2.2: Div of the least and -1: %v, %v %d", q, r, e)
	}
}

// divides fails where Div of a and b is not what the chapter says of it: 2.2,
// truncated, with a rest of a's sign, and 2.4, q b + r is a.
func divides(t *testing.T, a, b api.Wide) {
	t.Helper()
	q, r, e := wide.Div(a, b)
	if wide.Sign(b) == 0 {
		refused(t, "2.2: Div", q, e, api.ErrZero)
		refused(t, "2.2: Div, its rest", r, e, api.ErrZero)
		return
	}
	x, y := new(big.Int).QuoRem(valued(a), valued(b), new(big.Int))
	exact(t, "2.2: Div", q, e, x, a, b)
	if e != api.OK {
		refused(t, "2.2: Div, its rest", r, e, api.ErrOver)
		return
	}
	exact(t, "2.2: Div, its rest", r, e, y, a, b)
	if wide.Sign(r) != 0 && wide.Sign(r) != wide.Sign(a) {
		t.Errorf("2.2: Div of %v and %v: the rest is %v", a, b, r)
	}
	p, e := wide.Mul(q, b)
	s, f := wide.Add(p, r)
	if s != a || e != api.OK || f != api.OK {
		t.Errorf("2.4: Div of %v and %v: %v, %v, and back %v %d %d", a, b, q, r, s, e, f)
	}
}

// TestDivBack: 2.2 and 2.4, for edges and for drawn numbers.
func TestDivBack(t *testing.T) {
	pairs(func(a, b api.Wide) { divides(t, a, b) })
}

// TestDivRests: 2.2 and 2.4, with rests that are as little or as great as there
// may be, where a guess at the quotient is wrong by one most easily.
func TestDivRests(t *testing.T) {
	rnd := rand.New(rand.NewPCG(2, 2))
	for range 20000 {
		b, q := drawn(rnd), drawn(rnd)
		if wide.Sign(b) == 0 {
			continue
		}
		full := new(big.Int).Mul(valued(b), valued(q))
		for d := int64(-2); d <= 1; d++ {
			n := new(big.Int).Add(full, big.NewInt(d))
			if fits(n) {
				divides(t, wided(n), b)
			}
		}
	}
}

// TestPow: 2.2, all powers that have a place, and what is none.
func TestPow(t *testing.T) {
	for k := range 39 {
		a, e := wide.Pow(k)
		exact(t, "2.2: Pow", a, e, tens(k), k)
	}
	for _, k := range []int{-1, -2, -38, -1 << 63, 39, 40, 1<<63 - 1} {
		a, e := wide.Pow(k)
		refused(t, "2.2: Pow", a, e, api.ErrArg)
	}
}
