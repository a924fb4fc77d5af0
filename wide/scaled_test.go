package wide_test

import (
	"math/big"
	"math/rand/v2"
	"testing"

	"bursar/api"
	"bursar/wide"
)

// rounded answers n / 10^k, rounded half-even as DOC.md words it.
func rounded(n *big.Int, k int) *big.Int {
	d := tens(k)
	q, r := new(big.Int).DivMod(n, d, new(big.Int)) // down, also below zero
	up := new(big.Int).Sub(d, r)
	if c := r.Cmp(up); c > 0 || c == 0 && q.Bit(0) == 1 {
		q.Add(q, big.NewInt(1))
	}
	return q
}

// scales fails where Scaled of a and b, or of b and a, is not what the chapter says.
func scales(t *testing.T, a, b api.Wide, k int) {
	t.Helper()
	want := rounded(new(big.Int).Mul(valued(a), valued(b)), k)
	n, e := wide.Scaled(a, b, k)
	exact(t, "2.2: Scaled", n, e, want, a, b, k)
	n, e = wide.Scaled(b, a, k)
	exact(t, "2.2: Scaled", n, e, want, b, a, k)
}

// TestScaleds: 2.2, what lies just between two, and beside.
func TestScaleds(t *testing.T) {
	for _, c := range []struct {
		a, b string
		k    int
		want string
	}{
		{"25", "1", 1, "2"},
		{"35", "1", 1, "4"},
		{"-25", "1", 1, "-2"},
		{"-35", "1", 1, "-4"},
		{"5", "-7", 1, "-4"},
		{"-5", "-7", 1, "4"},
		{"24", "1", 1, "2"},
		{"26", "1", 1, "3"},
		{"-26", "1", 1, "-3"},
		{"5", "1", 1, "0"},
		{"-5", "1", 1, "0"},
		{"15", "1", 1, "2"},
		{"7", "-6", 0, "-42"},
		{"0", leastText, 0, "0"},
		{leastText, "1", 0, leastText},
		{mostText, "1", 0, mostText},
		{mostText, "10", 1, mostText},
		{leastText, "1000000000000000000000000000000000000", 36, leastText},
		{"-" + mostText, "1000000000000000000000000000000000000", 36, "-" + mostText},
		{"500000000000000000000000000000000000", "1", 36, "0"},
		{"500000000000000000000000000000000001", "1", 36, "1"},
		{"1499999999999999999999999999999999999", "1", 36, "1"},
		{"1500000000000000000000000000000000000", "1", 36, "2"},
		{"-1500000000000000000000000000000000001", "1", 36, "-2"},
		{"2500000000000000000000000000000000000", "1", 36, "2"},
		{"5000000000000000000", "1", 19, "0"},
		{"15000000000000000000", "1", 19, "2"},
		{"500000000000000000", "1", 18, "0"},
		{"500000000000000001", "1", 18, "1"},
	} {
		n, e := wide.Scaled(number(t, c.a), number(t, c.b), c.k)
		if n != number(t, c.want) || e != api.OK {
			t.Errorf("2.2: Scaled of %s, %s and %d: %v %d", c.a, c.b, c.k, n, e)
		}
		scales(t, number(t, c.a), number(t, c.b), c.k)
	}
}

// TestScaledErrors: 2.2, a scale that may not be comes ahead of what has no place.
func TestScaledErrors(t *testing.T) {
	for _, k := range []int{-1, -36, -1 << 63, 37, 38, 39, 1<<63 - 1} {
		for _, a := range []api.Wide{none, wide.Of(1), least, most} {
			n, e := wide.Scaled(a, a, k)
			refused(t, "2.2: Scaled", n, e, api.ErrArg)
		}
	}
	for _, k := range []int{0, 1, 18, 36} {
		for _, a := range []api.Wide{least, most} {
			for _, b := range []api.Wide{least, most} {
				n, e := wide.Scaled(a, b, k)
				refused(t, "2.2: Scaled", n, e, api.ErrOver)
			}
		}
	}
}

// TestScaledAll: 2.2, edges and drawn numbers, with each scale.
func TestScaledAll(t *testing.T) {
	k := 0
	pairs(func(a, b api.Wide) {
		scales(t, a, b, k)
		k = (k + 1) % 37
	})
	rnd := rand.New(rand.NewPCG(2, 3))
	for k := range 37 {
		for range 300 {
			scales(t, drawn(rnd), drawn(rnd), k)
		}
	}
}

// TestScaledBetween: 2.2, with each scale, products just between two numbers,
// one less and one more.
func TestScaledBetween(t *testing.T) {
	one := big.NewInt(1)
	for k := 1; k <= 36; k++ {
		half := new(big.Int).Div(tens(k), big.NewInt(2))
		for v := int64(-9); v <= 9; v++ {
			n := new(big.Int).Mul(big.NewInt(2*v+1), half)
			scales(t, wide.Of(2*v+1), wided(half), k)
			for _, n := range []*big.Int{n, new(big.Int).Sub(n, one), new(big.Int).Add(n, one)} {
				scales(t, wided(n), wide.Of(1), k)
				scales(t, wided(n), wide.Of(-1), k)
			}
		}
	}
}

// TestScaledLimits: 2.2, it is what was rounded that must be in the range: half
// a unit beyond the greatest number has no place, and half a unit beyond the
// least one has.
func TestScaledLimits(t *testing.T) {
	// By 3 and by other these make 2^128 - 1 and 2^128 + 1, and so twice what lies
	// half a unit below and above 2^127.
	below, three := number(t, "113427455640312821154458202477256070485"), big.NewInt(3)
	above, other := number(t, "59649589127497217"), valued(number(t, "5704689200685129054721"))
	for k := 1; k <= 36; k++ {
		half := new(big.Int).Div(tens(k), big.NewInt(2))
		b := new(big.Int).Mul(half, three)
		n, e := wide.Scaled(below, wided(b), k)
		refused(t, "2.2: Scaled to 2^127 - 1/2", n, e, api.ErrOver)
		n, e = wide.Scaled(below, wided(b.Neg(b)), k)
		if n != least || e != api.OK {
			t.Errorf("2.2: Scaled to -2^127 + 1/2: %v %d", n, e)
		}
		if b.Mul(half, other); !fits(b) {
			continue
		}
		n, e = wide.Scaled(above, wided(b), k)
		refused(t, "2.2: Scaled to 2^127 + 1/2", n, e, api.ErrOver)
		n, e = wide.Scaled(above, wided(b.Neg(b)), k)
		if n != least || e != api.OK {
			t.Errorf("2.2: Scaled to -2^127 - 1/2: %v %d", n, e)
		}
	}
}

// TestScaledAround: 2.2, products around whole words and around the limits,
// where a carry, or what is rounded up, goes on into the next word.
func TestScaledAround(t *testing.T) {
	rnd := rand.New(rand.NewPCG(2, 4))
	for _, at := range []uint{63, 64, 65, 126, 127, 128} {
		for k := range 37 {
			n := new(big.Int).Mul(two(at), tens(k))
			// As great as it must be for a to have a place, or a little more.
			b := new(big.Int).Div(n, two(127))
			if b.Cmp(tens(k)) < 0 {
				b.Set(tens(k))
			}
			b.Add(b, big.NewInt(1))
			for range 60 {
				b.Add(b, big.NewInt(rnd.Int64N(5)))
				a := new(big.Int).Div(n, b)
				for range 2 {
					if fits(a) && fits(b) {
						scales(t, wided(a), wided(b), k)
						scales(t, wided(new(big.Int).Neg(a)), wided(b), k)
					}
					a.Add(a, big.NewInt(1))
				}
			}
		}
	}
}
