package rate_test

import (
	"math/big"
	"math/rand/v2"
	"testing"

	"bursar/api"
	"bursar/rate"
)

// near fails where what Cross answers is more than half a unit of its last digit away
// from the product, or where ErrOver is answered though there is a C so near; it tells
// whether there was a place.
func near(t *testing.T, amount, r api.Dec, scale int) bool {
	t.Helper()
	a, e := rate.Cross(amount, r, scale)
	// In halves of a unit of the last digit.
	halves := new(big.Rat).SetFrac(new(big.Int).Lsh(ten(scale), 1), big.NewInt(1))
	product := new(big.Rat).Mul(value(amount), value(r))
	product.Mul(product, halves)
	if e != 0 {
		limit := new(big.Int).SetBit(new(big.Int), 128, 1)
		limit.Sub(limit, big.NewInt(1)) // twice the greatest C, and one
		if e != overError || a != zero || product.Cmp(new(big.Rat).SetInt(limit)) < 0 {
			t.Errorf("18.2: Cross of %v, %v and %d: %v %d, though there is a C of %s halves", amount, r, scale, a, e, product.FloatString(3))
		}
		return false
	}
	if a.Scale != scale {
		t.Fatalf("18.2: Cross of %v, %v and %d: %v, of another scale", amount, r, scale, a)
	}
	away := new(big.Rat).Mul(value(a), halves)
	away.Sub(away, product)
	if away.Abs(away).Cmp(big.NewRat(1, 1)) > 0 {
		t.Errorf("18.2: Cross of %v, %v and %d: %v, %s halves of a unit away", amount, r, scale, a, away.FloatString(3))
	}
	return true
}

// both fails where Cross is not what the chapter says, or too far away.
func both(t *testing.T, amount, r api.Dec, scale int) {
	t.Helper()
	crosses(t, amount, r, scale)
	near(t, amount, r, scale)
}

// TestCrossHalf: Cross, from all scales to all smaller ones, products that lie just at
// a half, a unit of their own last digit below and above it, ahead of even and odd
// last places.
func TestCrossHalf(t *testing.T) {
	for from := 1; from <= 2*mostScale; from++ {
		scaleR := from / 2
		for scale := max(0, from-36); scale < min(from, mostScale+1); scale++ {
			half := new(big.Int).Div(ten(from-scale), big.NewInt(2))
			for v := int64(1); v <= 9; v += 2 {
				for d := int64(-1); d <= 1; d++ {
					n := new(big.Int).Mul(big.NewInt(v), half)
					n.Add(n, big.NewInt(d))
					both(t, made(t, n, from-scaleR), of(t, "1", scaleR), scale)
					both(t, of(t, "1", from-scaleR), made(t, n, scaleR), scale)
				}
			}
		}
	}
}

// TestCrossFactors: Cross, products of two numbers of many digits that lie just at a
// half: of v times five to the one power, and of two and five to others.
func TestCrossFactors(t *testing.T) {
	for less := 1; less <= 36; less++ { // so many digits go
		for five := range less + 1 {
			first := new(big.Int).Exp(big.NewInt(5), big.NewInt(int64(five)), nil)
			second := new(big.Int).Exp(big.NewInt(5), big.NewInt(int64(less-five)), nil)
			second.Lsh(second, uint(less-1))
			for v := int64(1); v <= 7; v++ {
				amount := new(big.Int).Mul(first, big.NewInt(v))
				if !fits(amount) || !fits(second) {
					continue
				}
				for scaleR := max(0, less-mostScale); scaleR <= min(less, mostScale); scaleR++ {
					both(t, made(t, amount, less-scaleR), made(t, second, scaleR), 0)
					scale := mostScale - (less - scaleR)
					both(t, made(t, amount, mostScale), made(t, second, scaleR), scale)
				}
			}
		}
	}
}

// TestCrossNothing: Cross, products that round to 0, which is right, and the first ones
// that do not.
func TestCrossNothing(t *testing.T) {
	for scale := range mostScale + 1 {
		for full := scale + 1; full <= 2*mostScale; full++ {
			half := new(big.Int).Div(ten(full-scale), big.NewInt(2))
			r := of(t, "1", full/2)
			a, e := rate.Cross(made(t, half, full-full/2), r, scale)
			if e != 0 || a != (api.Dec{Scale: scale}) {
				t.Errorf("18.1: Cross of half a unit to the scale %d: %v %d, not 0", scale, a, e)
			}
			a, e = rate.Cross(made(t, half.Add(half, big.NewInt(1)), full-full/2), r, scale)
			if e != 0 || a != of(t, "1", scale) {
				t.Errorf("18.1: Cross of more than half a unit to the scale %d: %v %d, not one", scale, a, e)
			}
		}
	}
}

// TestCrossLimits: Cross, with all scales of what is asked for, the greatest amount that
// has a place behind drawn rates, and the next ones.
func TestCrossLimits(t *testing.T) {
	rnd := rand.New(rand.NewPCG(18, 1))
	most := whole(t, mostText)
	fit, no := 0, 0
	for i := range 20000 {
		scale, scaleA := i%(mostScale+1), rnd.IntN(mostScale+1)
		r := drawn(t, rnd)
		n := new(big.Int).Mul(most, ten(scaleA+r.Scale))
		n.Div(n, new(big.Int).Mul(unscaled(r), ten(scale)))
		for d := int64(-1); d <= 2; d++ {
			c := new(big.Int).Add(n, big.NewInt(d))
			if c.Sign() <= 0 || !fits(c) {
				continue
			}
			amount := made(t, c, scaleA)
			crosses(t, amount, r, scale)
			if near(t, amount, r, scale) {
				fit++
			} else {
				no++
			}
		}
	}
	if fit < 1000 || no < 1000 {
		t.Errorf("only %d that fit and %d that do not", fit, no)
	}
}

// TestCrossDrawn: 18.2, drawn amounts, rates and scales of any size.
func TestCrossDrawn(t *testing.T) {
	rnd := rand.New(rand.NewPCG(18, 2))
	fit, no := 0, 0
	for range 60000 {
		amount, r, scale := drawn(t, rnd), drawn(t, rnd), rnd.IntN(mostScale+1)
		crosses(t, amount, r, scale)
		if near(t, amount, r, scale) {
			fit++
		} else {
			no++
		}
	}
	if fit < 1000 || no < 1000 {
		t.Errorf("only %d that fit and %d that do not", fit, no)
	}
}

// TestCrossOften: R4, the same again answers the same, whatever was crossed between.
func TestCrossOften(t *testing.T) {
	rnd := rand.New(rand.NewPCG(18, 3))
	for range 2000 {
		amount, r, scale := drawn(t, rnd), drawn(t, rnd), rnd.IntN(mostScale+3)-1
		a, e := rate.Cross(amount, r, scale)
		rate.Cross(r, amount, scale)
		rate.Right(amount)
		if b, f := rate.Cross(amount, r, scale); a != b || e != f {
			t.Errorf("R4: Cross of %v, %v and %d: %v %d, then %v %d", amount, r, scale, a, e, b, f)
		}
	}
}
