package rate_test

import (
	"testing"

	"bursar/api"
	"bursar/rate"
)

// TestRightOf: 18.1, the chapter's rate and others.
func TestRightOf(t *testing.T) {
	for _, c := range []struct {
		r    api.Dec
		want api.Errno
	}{
		{num(t, "0"), rateError},
		{num(t, "0.00"), rateError},
		{num(t, "0.000000000000000000"), rateError},
		{num(t, "1"), 0},
		{num(t, "1.0825"), 0},
		{num(t, "161.5"), 0},
		{num(t, smallText), 0},
		{num(t, "-"+smallText), rateError},
		{num(t, "-1"), rateError},
		{num(t, "-1.5"), rateError},
		{num(t, mostText), 0},
		{num(t, leastText), rateError},
		{of(t, mostText, 18), 0},
		{of(t, leastText, 18), rateError},
		// All of the number lies in its lower half, whose highest bit is no sign.
		{num(t, "9223372036854775808"), 0},
		{num(t, "18446744073709551615"), 0},
		// None of it lies there.
		{num(t, "18446744073709551616"), 0},
		{num(t, "-18446744073709551616"), rateError},
		{of(t, "1", 19), scaleError},
		{of(t, "1", -1), scaleError},
		{of(t, "0", 19), scaleError},
		{of(t, "0", -1), scaleError},
		{of(t, "-1", 19), scaleError},
		{of(t, "-1", -1), scaleError},
		{of(t, leastText, 19), scaleError},
		{of(t, mostText, -1), scaleError},
	} {
		if e := rate.Right(c.r); e != c.want {
			t.Errorf("18.1: Right of %v: %d, not %d", c.r, e, c.want)
		}
	}
}

// TestRight: 18.1, numbers of any size with all scales that may be, and with others.
func TestRight(t *testing.T) {
	scales := wrong()
	for scale := range mostScale + 1 {
		scales = append(scales, scale)
	}
	for _, digits := range numbers() {
		for _, scale := range scales {
			r := of(t, digits, scale)
			was := r
			if e := rate.Right(r); e != rightOf(was) {
				t.Errorf("18.1: Right of %v: %d, not %d", was, e, rightOf(was))
			}
			if r != was {
				t.Errorf("R2: Right of %v has made it %v", was, r)
			}
		}
	}
}
