package rate_test

import (
	"math"
	"testing"

	"bursar/api"
	"bursar/rate"
)

// TestCrossOf: Cross, the chapter's conversions and others: what is rounded, what has more
// digits than there were, and what has no place.
func TestCrossOf(t *testing.T) {
	for _, c := range []struct {
		amount, r string
		scale     int
		want      string
	}{
		{"10.00", "1.0825", 2, "10.82"},
		{"0.01", "0.5", 2, "0.00"},
		{"0.03", "0.5", 2, "0.02"},
		{"10.00", "1.0835", 2, "10.84"},
		{"10.00", "1.08251", 2, "10.83"},
		{"10.00", "1.08249", 2, "10.82"},
		{"10.00", "1.08349", 2, "10.83"},
		{"10.00", "1.08351", 2, "10.84"},
		{"1", "1", 0, "1"},
		{"1", "1", 2, "1.00"},
		{"1", "1", 18, "1.000000000000000000"},
		{"1.50", "2", 0, "3"},
		{"1.50", "3", 0, "4"},
		{"0.50", "1", 0, "0"},
		{"0.51", "1", 0, "1"},
		{"0.01", "161.5", 0, "2"},
		{"100", "0.0065", 2, "0.65"},
		{"100.00", "0.006549", 2, "0.65"},
		// It is rounded once, not place by place.
		{"1.49", "1.0", 0, "1"},
		{"2.4999", "0.1", 1, "0.2"},
		{"0.05", "4.999999999999999999", 1, "0.2"},
		{"0.05", "5.000000000000000000", 1, "0.2"},
		{"0.05", "5.000000000000000001", 1, "0.3"},
		// The smallest amount, and the smallest rate.
		{smallText, "1", 18, smallText},
		{"1", smallText, 18, smallText},
		{smallText, "1", 17, "0.00000000000000000"},
		{smallText, smallText, 18, "0.000000000000000000"},
		{smallText, smallText, 0, "0"},
		{smallText, "0.500000000000000000", 18, "0.000000000000000000"},
		{smallText, "0.500000000000000001", 18, smallText},
		{smallText, "1.500000000000000000", 18, "0.000000000000000002"},
		{smallText, "1000000000000000000", 0, "1"},
		{smallText, "500000000000000000", 0, "0"},
		{smallText, "500000000000000001", 0, "1"},
		{smallText, mostText, 0, "170141183460469231732"},
		{mostText, smallText, 0, "170141183460469231732"},
		{mostText, smallText, 18, "170141183460469231731.687303715884105727"},
		// The greatest amount, and the greatest rate.
		{mostText, "1", 0, mostText},
		{"1", mostText, 0, mostText},
		{mostText, "1.000000000000000000", 0, mostText},
		{mostText, "0.1", 0, "17014118346046923173168730371588410573"},
		{mostText, "0.1", 1, "17014118346046923173168730371588410572.7"},
		{mostText, "1.1", 0, "over"},
		{mostText, "1", 1, "over"},
		{mostText, "2", 0, "over"},
		{"2", mostText, 0, "over"},
		{mostText, mostText, 0, "over"},
		{mostText, mostText, 18, "over"},
		{mostText, "1.000000000000000001", 0, "over"},
		{"170141183460469231731.687303715884105727", "1", 18, "170141183460469231731.687303715884105727"},
		{"170141183460469231731.687303715884105727", "1.000000000000000000", 18, "170141183460469231731.687303715884105727"},
		{"170141183460469231731.687303715884105727", "170141183460469231731.687303715884105727", 0, "over"},
		{"170141183460469231731.687303715884105727", "1", 0, "170141183460469231732"},
		{"85070591730234615865843651857942052863", "2", 0, "170141183460469231731687303715884105726"},
		{"85070591730234615865843651857942052864", "2", 0, "over"},
		// A product that has no place with all its digits, but has one when it is rounded.
		{"1000000000000.000000000000000000", "1000000000000.000000000000000000", 0, "1000000000000000000000000"},
		{"1000000000000000000", "1000000000000000000", 2, "1000000000000000000000000000000000000.00"},
		{"1000000000000000000", "1000000000000000000", 3, "over"},
		// Half a unit beyond the greatest C, where the even number has no place, a tenth
		// less and a tenth more; and half a unit ahead of it, where the even one is below.
		{"113427455640312821154458202477256070485", "1.5", 0, "over"},
		{"130877833431130178255144079781449312098", "1.3", 0, mostText},
		{"154673803145881119756079367014440096116", "1.1", 0, "over"},
		{"154673803145881119756079367014440096115", "1.1", 0, "170141183460469231731687303715884105726"},
		{"106338239662793269832304564822427566079", "1.6", 0, "170141183460469231731687303715884105726"},
		{"16680508182398944287420323893714128012.5", "10.2", 0, "over"},
		{"2535636117145592127148842082203936001.9", "67.1", 0, mostText},
		{"799160091406619219030940834738769871.9", "212.9", 0, "over"},
	} {
		amount, r := num(t, c.amount), num(t, c.r)
		a, e := rate.Cross(amount, r, c.scale)
		if c.want == "over" {
			refused(t, a, e, overError, amount, r, c.scale)
		} else if want := num(t, c.want); a != want || e != 0 {
			t.Errorf("18.1: Cross of %s, %s and %d: %v %d, not %s", c.amount, c.r, c.scale, a, e, c.want)
		}
		crosses(t, amount, r, c.scale)
	}
}

// TestCrossErrors: Cross, each error by itself, where no other would do.
func TestCrossErrors(t *testing.T) {
	for _, c := range []struct {
		amount, r api.Dec
		scale     int
		want      api.Errno
	}{
		{num(t, "0"), num(t, "1"), 2, amountError},
		{num(t, "1"), num(t, "0"), 2, rateError},
		{num(t, "1"), num(t, "1"), 19, scaleError},
		{num(t, "1"), num(t, "1"), -1, scaleError},
		{num(t, "1"), num(t, "1"), math.MaxInt, scaleError},
		{num(t, "1"), num(t, "1"), math.MinInt, scaleError},
		{num(t, "1"), num(t, "1"), 0, 0},
		{num(t, "1"), num(t, "1"), 18, 0},
		{of(t, "1", 19), num(t, "1"), 2, scaleError},
		{of(t, "1", -1), num(t, "1"), 2, scaleError},
		{of(t, "1", 18), num(t, "1"), 2, 0},
		{num(t, "1"), of(t, "1", 19), 2, scaleError},
		{num(t, "1"), of(t, "1", -1), 2, scaleError},
		{num(t, "1"), of(t, "1", 18), 2, 0},
		{num(t, "0.00"), num(t, "1"), 2, amountError},
		{num(t, "-1"), num(t, "1"), 2, amountError},
		{num(t, "-"+smallText), num(t, "1"), 2, amountError},
		{num(t, leastText), num(t, "1"), 2, amountError},
		{of(t, leastText, 18), num(t, "1"), 2, amountError},
		{num(t, "1"), num(t, "0.00"), 2, rateError},
		{num(t, "1"), num(t, "-1"), 2, rateError},
		{num(t, "1"), num(t, "-"+smallText), 2, rateError},
		{num(t, "1"), num(t, leastText), 2, rateError},
		{num(t, "1"), of(t, leastText, 18), 2, rateError},
		// The product of two that are less than 0 is not looked at.
		{num(t, "-1"), num(t, "-1"), 2, amountError},
		{num(t, mostText), num(t, "1"), 1, overError},
		{num(t, "1"), num(t, mostText), 1, overError},
	} {
		a, e := rate.Cross(c.amount, c.r, c.scale)
		if c.want != 0 {
			refused(t, a, e, c.want, c.amount, c.r, c.scale)
		} else if e != 0 {
			t.Errorf("18.1: Cross of %v, %v and %d: the error %d", c.amount, c.r, c.scale, e)
		}
	}
}

// TestCrossOrder: Cross, where two errors or more would do, the first one that the
// chapter lists.
func TestCrossOrder(t *testing.T) {
	for _, c := range []struct {
		amount, r api.Dec
		scale     int
		want      api.Errno
	}{
		// A wrong scale, of the amount or of what is asked for, goes ahead of all.
		{of(t, "0", 19), num(t, "1"), 2, scaleError},
		{of(t, "-1", -1), num(t, "1"), 2, scaleError},
		{of(t, "1", 19), num(t, "0"), 2, scaleError},
		{of(t, mostText, 19), num(t, mostText), 18, scaleError},
		{num(t, "0"), num(t, "1"), 19, scaleError},
		{num(t, "-1"), num(t, "0"), -1, scaleError},
		{num(t, "1"), num(t, "0"), 19, scaleError},
		{num(t, mostText), num(t, mostText), 19, scaleError},
		// What is wrong with the amount goes ahead of what is wrong with the rate, its
		// scale too.
		{num(t, "0"), of(t, "1", 19), 2, amountError},
		{num(t, "-1"), of(t, "0", -1), 2, amountError},
		{num(t, "0"), num(t, "0"), 2, amountError},
		{num(t, "-1"), num(t, "-1"), 2, amountError},
		{num(t, leastText), num(t, mostText), 18, amountError},
		// The scale of a rate goes ahead of its number, and both of the product.
		{num(t, "1"), of(t, "0", 19), 2, scaleError},
		{num(t, "1"), of(t, "-1", -1), 2, scaleError},
		{num(t, mostText), of(t, mostText, 19), 18, scaleError},
		{num(t, mostText), num(t, "-1"), 18, rateError},
		{num(t, mostText), num(t, leastText), 18, rateError},
	} {
		a, e := rate.Cross(c.amount, c.r, c.scale)
		refused(t, a, e, c.want, c.amount, c.r, c.scale)
		crosses(t, c.amount, c.r, c.scale)
	}
}

// TestCross: Cross, numbers of any size, each with each, with all kinds of scales of
// both and of what is asked for, and they stay as they were.
func TestCross(t *testing.T) {
	scales := []int{0, 1, 9, 18, -1, 19, math.MinInt, math.MaxInt}
	count := map[api.Errno]int{}
	for _, first := range numbers() {
		for _, second := range numbers() {
			for i := range 8 * 8 * 8 {
				amount, r := of(t, first, scales[i%8]), of(t, second, scales[i/8%8])
				wasAmount, wasR := amount, r
				count[crosses(t, amount, r, scales[i/64])]++
				if amount != wasAmount || r != wasR {
					t.Fatalf("R2: Cross of %v and %v has made them %v and %v", wasAmount, wasR, amount, r)
				}
			}
		}
	}
	for _, e := range []api.Errno{0, overError, scaleError, amountError, rateError} {
		if count[e] < 100 {
			t.Errorf("only %d conversions with the error %d", count[e], e)
		}
	}
}

// TestCrossWrong: Cross, each scale that may not be, of the amount, of the rate and of
// what is asked for.
func TestCrossWrong(t *testing.T) {
	for _, scale := range wrong() {
		for _, digits := range numbers() {
			crosses(t, of(t, digits, scale), num(t, "1"), 2)
			crosses(t, num(t, "1"), of(t, digits, scale), 2)
			crosses(t, of(t, digits, 2), num(t, "1"), scale)
			crosses(t, of(t, digits, scale), of(t, digits, scale), scale)
		}
	}
}
