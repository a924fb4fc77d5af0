package dec_test

import (
	"math/big"
	"math/rand/v2"
	"testing"

	"bursar/api"
	"bursar/dec"
)

// rounded answers the C of x with a scale: half-even, as DOC.md words it.
func rounded(x *big.Rat, scale int) *big.Int {
	x = new(big.Rat).Mul(x, new(big.Rat).SetInt(ten(scale)))
	// The number above x + 1/2 is the nearest, and the higher one of two as near.
	x.Add(x, big.NewRat(1, 2))
	n, rest := new(big.Int).DivMod(x.Num(), x.Denom(), new(big.Int))
	if rest.Sign() == 0 && n.Bit(0) == 1 {
		n.Sub(n, big.NewInt(1))
	}
	return n
}

// multiplies fails where Mul of a and b, or of b and a, is not what the chapter says.
func multiplies(t *testing.T, a, b api.Dec, scale int) {
	t.Helper()
	want := rounded(new(big.Rat).Mul(value(a), value(b)), scale)
	n, e := dec.Mul(a, b, scale)
	exact(t, "3.2: Mul", n, e, want, scale, a, b, scale)
	n, e = dec.Mul(b, a, scale)
	exact(t, "3.2: Mul", n, e, want, scale, b, a, scale)
}

// rescales fails where Rescale of a is not what the chapter says.
func rescales(t *testing.T, a api.Dec, scale int) {
	t.Helper()
	n, e := dec.Rescale(a, scale)
	exact(t, "3.2: Rescale", n, e, rounded(value(a), scale), scale, a, scale)
}

// TestMulOf: 3.2, the chapter's products and others: what lies just between two,
// what has more places than there were, and what has none.
func TestMulOf(t *testing.T) {
	for _, c := range []struct {
		a      string
		scaleA int
		b      string
		scaleB int
		want   string
		scale  int
	}{
		{"5", 2, "5", 1, "2", 2},
		{"15", 2, "5", 1, "8", 2},
		{"-5", 2, "5", 1, "-2", 2},
		{"-15", 2, "5", 1, "-8", 2},
		{"-15", 2, "-5", 1, "8", 2},
		{"25", 2, "5", 1, "12", 2},
		{"251", 3, "5", 1, "13", 2},
		{"249", 3, "5", 1, "12", 2},
		{"15", 1, "15", 1, "225", 2},
		{"15", 1, "15", 1, "22500", 4},
		{"2", 0, "3", 0, "6000000000000000000", 18},
		{"1", 18, "1", 18, "0", 18},
		{"1", 18, "500000000000000000", 18, "0", 18},
		{"1", 18, "500000000000000001", 18, "1", 18},
		{"3", 18, "500000000000000000", 18, "2", 18},
		{"1000000000000000000", 18, "500000000000000000", 18, "0", 0},
		{"1000000000000000000", 18, "500000000000000001", 18, "1", 0},
		{"1500000000000000000", 18, "1000000000000000000", 18, "2", 0},
		{mostText, 0, "1", 0, mostText, 0},
		{leastText, 0, "1", 0, leastText, 0},
		{leastText, 0, "-1", 0, "over", 0},
		{mostText, 0, "1", 0, "over", 1},
		{mostText, 0, "10", 0, "over", 0},
		{mostText, 0, "10", 1, mostText, 0},
		{mostText, 0, "1", 1, "17014118346046923173168730371588410573", 0},
		{mostText, 0, "0", 0, "0", 18},
		{leastText, 18, "0", 18, "0", 0},
		{mostText, 0, leastText, 0, "over", 18},
		{mostText, 18, mostText, 18, "over", 0},
		// The product of the Cs has no place, what it is rounded to has one.
		{"1000000000000000000000000000000", 18, "1000000000000000000000000000000", 18, "1000000000000000000000000", 0},
		// Half a unit beyond the limits: the even number is the one without a place
		// above, and the one with a place below.
		{"113427455640312821154458202477256070485", 0, "15", 1, "over", 0},
		{"113427455640312821154458202477256070485", 0, "-15", 1, leastText, 0},
		{"113427455640312821154458202477256070485", 1, "15", 18, "over", 18},
		{"113427455640312821154458202477256070485", 1, "-15", 18, leastText, 18},
	} {
		a, b := of(t, c.a, c.scaleA), of(t, c.b, c.scaleB)
		n, e := dec.Mul(a, b, c.scale)
		told(t, "3.2: Mul", n, e, c.want, c.scale, a, b, c.scale)
		multiplies(t, a, b, c.scale)
	}
}

// TestMul: 3.2, edges and drawn numbers, with each scale.
func TestMul(t *testing.T) {
	scale := 0
	pairs(t, func(a, b api.Dec) {
		multiplies(t, a, b, scale)
		scale = (scale + 1) % (api.MaxScale + 1)
	})
}

// TestMulBetween: 3.2, with all scales, products just between two numbers, one
// less and one more.
func TestMulBetween(t *testing.T) {
	for from := 1; from <= 2*api.MaxScale; from++ {
		scaleA := from / 2
		scaleB := from - scaleA
		for scale := max(0, from-36); scale < min(from, 19); scale++ {
			half := new(big.Int).Div(ten(from-scale), big.NewInt(2))
			for v := int64(-5); v <= 5; v += 2 {
				n := new(big.Int).Mul(big.NewInt(v), half)
				for d := int64(-1); d <= 1; d++ {
					a := of(t, new(big.Int).Add(n, big.NewInt(d)).String(), scaleA)
					multiplies(t, a, of(t, "1", scaleB), scale)
					multiplies(t, a, of(t, "-1", scaleB), scale)
				}
			}
		}
	}
}

// TestMulLimits: 3.2, products around the limits that are written with more
// places than they have.
func TestMulLimits(t *testing.T) {
	for scale := 1; scale <= api.MaxScale; scale++ {
		n := new(big.Int).Div(whole(t, mostText), ten(scale))
		for d := int64(-1); d <= 1; d++ {
			a := new(big.Int).Add(n, big.NewInt(d))
			multiplies(t, of(t, a.String(), 0), of(t, "1", 0), scale)
			multiplies(t, of(t, a.String(), 0), of(t, "-1", 0), scale)
			multiplies(t, of(t, a.String(), scale/2), of(t, "10", 0), scale)
		}
	}
}

// TestRescaleOf: 3.2, the chapter's numbers and others.
func TestRescaleOf(t *testing.T) {
	for _, c := range []struct {
		a     string
		from  int
		want  string
		scale int
	}{
		{"25", 1, "2", 0},
		{"-35", 1, "-4", 0},
		{"35", 1, "4", 0},
		{"-25", 1, "-2", 0},
		{"24", 1, "2", 0},
		{"26", 1, "3", 0},
		{"251", 2, "3", 0},
		{"-251", 2, "-3", 0},
		{"5", 1, "0", 0},
		{"-5", 1, "0", 0},
		{"-6", 1, "-1", 0},
		{"15", 1, "2", 0},
		{"25", 2, "2", 1},
		{"995", 2, "100", 1},
		// It is rounded once, not place by place.
		{"149", 2, "1", 0},
		{"2501", 3, "3", 0},
		{"2500000000000000000", 18, "2", 0},
		{"2500000000000000001", 18, "3", 0},
		{"3500000000000000000", 18, "4", 0},
		{"7", 0, "7000", 3},
		{"-7", 0, "-7000000000000000000", 18},
		{"0", 0, "0", 18},
		{"0", 18, "0", 0},
		{"1", 18, "1", 18},
		{mostText, 0, mostText, 0},
		{leastText, 18, leastText, 18},
		{mostText, 0, "over", 1},
		{leastText, 0, "over", 18},
		{mostText, 17, "over", 18},
		{"17014118346046923173168730371588410572", 0, "170141183460469231731687303715884105720", 1},
		{"17014118346046923173168730371588410573", 0, "over", 1},
		{"-17014118346046923173168730371588410572", 17, "-170141183460469231731687303715884105720", 18},
		{"-17014118346046923173168730371588410573", 17, "over", 18},
		{mostText, 1, "17014118346046923173168730371588410573", 0},
		{leastText, 18, "-170141183460469231732", 0},
	} {
		a := of(t, c.a, c.from)
		n, e := dec.Rescale(a, c.scale)
		told(t, "3.2: Rescale", n, e, c.want, c.scale, a, c.scale)
		rescales(t, a, c.scale)
	}
}

// TestRescale: 3.2, edges and drawn numbers, to all scales.
func TestRescale(t *testing.T) {
	row := edges(t)
	rnd := rand.New(rand.NewPCG(3, 2))
	for range 4000 {
		row = append(row, drawn(rnd))
	}
	for _, a := range row {
		for scale := range api.MaxScale + 1 {
			rescales(t, a, scale)
		}
	}
}

// TestRescaleBetween: 3.2, from each scale to each smaller one, numbers just
// between two, one less and one more.
func TestRescaleBetween(t *testing.T) {
	for from := 1; from <= api.MaxScale; from++ {
		for scale := range from {
			half := new(big.Int).Div(ten(from-scale), big.NewInt(2))
			for v := int64(-9); v <= 9; v++ {
				n := new(big.Int).Mul(big.NewInt(v), half)
				for d := int64(-1); d <= 1; d++ {
					rescales(t, of(t, new(big.Int).Add(n, big.NewInt(d)).String(), from), scale)
				}
			}
		}
	}
}

// TestRescaleBack: 3.4, to a greater scale and back it is what it was.
func TestRescaleBack(t *testing.T) {
	pairs(t, func(a, b api.Dec) {
		if b.Scale < a.Scale {
			return
		}
		n, e := dec.Rescale(a, b.Scale)
		exact(t, "3.4: Rescale", n, e, widened(a, b.Scale), b.Scale, a)
		if e != api.OK {
			return
		}
		if back, e := dec.Rescale(n, a.Scale); back != a || e != api.OK {
			t.Errorf("3.4: Rescale of %v to %d and back: %v %d", a, b.Scale, back, e)
		}
	})
}
