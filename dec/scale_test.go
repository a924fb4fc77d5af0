package dec_test

import (
	"math"
	"testing"

	"bursar/api"
	"bursar/dec"
)

// refuses fails where one of the calls takes a or b, one of which is not right.
func refuses(t *testing.T, a, b api.Dec) {
	t.Helper()
	x, e := dec.Add(a, b)
	refused(t, "3.1: Add", x, e, api.ErrScale, a, b)
	x, e = dec.Sub(a, b)
	refused(t, "3.1: Sub", x, e, api.ErrScale, a, b)
	if n, e := dec.Cmp(a, b); n != 0 || e != api.ErrScale {
		t.Errorf("3.1: Cmp of %v and %v: %d %d", a, b, n, e)
	}
	for _, scale := range []int{0, 2, api.MaxScale, -1, 19} {
		x, e = dec.Mul(a, b, scale)
		refused(t, "3.1: Mul", x, e, api.ErrScale, a, b, scale)
	}
}

// TestWrongScales: 3.1, a decimal that is not right comes ahead of all else, also
// of what has no place.
func TestWrongScales(t *testing.T) {
	for _, scale := range wrong() {
		for _, c := range []string{"0", "1", "-7", leastText, mostText} {
			bad := of(t, c, scale)
			for _, good := range []api.Dec{{}, {Scale: api.MaxScale}, of(t, mostText, 0), of(t, leastText, 0), of(t, "5", 1)} {
				refuses(t, bad, good)
				refuses(t, good, bad)
			}
			for _, other := range wrong() {
				refuses(t, bad, api.Dec{C: bad.C, Scale: other})
			}
			x, e := dec.Neg(bad)
			refused(t, "3.1: Neg", x, e, api.ErrScale, bad)
			for _, to := range []int{0, 2, api.MaxScale, scale} {
				x, e = dec.Rescale(bad, to)
				refused(t, "3.1: Rescale", x, e, api.ErrScale, bad, to)
			}
			if s, e := dec.Text(bad); s != "" || e != api.ErrScale {
				t.Errorf("3.1: Text of %v: %s %d", bad, s, e)
			}
		}
	}
}

// TestWrongTargets: 3.1, the argument scale that is not right comes ahead of what
// has no place.
func TestWrongTargets(t *testing.T) {
	for _, scale := range wrong() {
		for _, a := range []api.Dec{{}, {Scale: api.MaxScale}, of(t, "1", 0), of(t, "-15", 1), of(t, mostText, 0), of(t, leastText, 18)} {
			x, e := dec.Mul(a, a, scale)
			refused(t, "3.1: Mul", x, e, api.ErrScale, a, a, scale)
			x, e = dec.Rescale(a, scale)
			refused(t, "3.1: Rescale", x, e, api.ErrScale, a, scale)
		}
	}
}

// TestWrongSums: 3.1, wrong scales whose sum or difference would be one that may be.
func TestWrongSums(t *testing.T) {
	one := func(scale int) api.Dec { return of(t, "1", scale) }
	for _, c := range []struct{ a, b, to int }{{19, -19, 0}, {20, -2, 18}, {-1, 1, 0}, {19, 0, 18}, {18, 18, 36}, {0, 0, -18}, {math.MaxInt, math.MinInt, 0}, {math.MinInt, math.MinInt, 0}, {math.MaxInt, math.MaxInt, 0}, {0, 0, math.MinInt}} {
		x, e := dec.Mul(one(c.a), one(c.b), c.to)
		refused(t, "3.1: Mul", x, e, api.ErrScale, c.a, c.b, c.to)
	}
}
