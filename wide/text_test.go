package wide_test

import (
	"math/big"
	"math/rand/v2"
	"strconv"
	"strings"
	"testing"

	"bursar/api"
	"bursar/wide"
)

// TestTexts: 2.3, digits as the chapter words them, and back.
func TestTexts(t *testing.T) {
	for s, a := range map[string]api.Wide{
		"0": {}, "1": {Lo: 1}, "-1": {Hi: -1, Lo: 1<<64 - 1}, "9": {Lo: 9}, "10": {Lo: 10}, "-10": {Hi: -1, Lo: 1<<64 - 10},
		"9999999999999999999":   {Lo: 9999999999999999999},
		"10000000000000000000":  {Lo: 10000000000000000000},
		"-10000000000000000000": {Hi: -1, Lo: 8446744073709551616},
		"18446744073709551615":  {Lo: 1<<64 - 1},
		"18446744073709551616":  {Hi: 1},
		"-18446744073709551615": {Hi: -1, Lo: 1},
		"-18446744073709551616": {Hi: -1},
		"-18446744073709551617": {Hi: -2, Lo: 1<<64 - 1},
		leastText:               least,
		mostText:                most,
		"-" + mostText:          {Hi: -1 << 63, Lo: 1},
	} {
		if got := wide.Text(a); got != s {
			t.Errorf("2.3: Text of %v: %s, not %s", a, got, s)
		}
		if got, e := wide.Parse(s); got != a || e != api.OK {
			t.Errorf("2.3: Parse of %s: %v %d, not %v", s, got, e, a)
		}
	}
}

// TestParseForm: 2.3, what is not in the form of a Text, however long.
func TestParseForm(t *testing.T) {
	long := strings.Repeat("9", 1000)
	for _, s := range []string{
		"", "-", "--", "--1", "+", "+1", "+0", "-+1", "-0", "00", "-00", "01", "-01", "007", "-007",
		" ", " 1", "1 ", "1\n", "\t1", "- 1", "1-", "0-", "0-1", "1.0", "1.", ".1", "1e3", "1E3", "0x1", "x", "a1", "1a", "0b1", "1_0", "1,0", "1\x00", "\x00",
		"/", ":", "1/", "1:", "\xb1", "1\xff",
		"\u0661", "\uff11", "1\u0662", "\u22121", "\u00b9",
		"0" + mostText, "-0" + mostText, mostText + " ", "+" + mostText, mostText + "x", leastText + "x",
		long + "x", "x" + long, "0" + long, "-0" + long, "-" + long + "-", long + ".0",
		strings.Repeat("0", 1000), strings.Repeat("-", 1000),
	} {
		a, e := wide.Parse(s)
		refused(t, "2.3: Parse of "+strconv.Quote(s), a, e, api.ErrText)
	}
}

// TestParseRange: 2.3, digits around each limit, and many more digits.
func TestParseRange(t *testing.T) {
	for _, p := range []*big.Int{
		big.NewInt(0), two(63), two(64), two(127), two(128), two(129), two(192), two(256),
		tens(18), tens(19), tens(20), tens(37), tens(38), tens(39), tens(40), tens(57), tens(76),
		new(big.Int).Mul(two(64), tens(19)), new(big.Int).Mul(two(63), tens(19)), new(big.Int).Mul(two(128), tens(19)),
	} {
		for d := int64(-3); d <= 3; d++ {
			n := new(big.Int).Add(p, big.NewInt(d))
			for _, n := range []*big.Int{n, new(big.Int).Neg(n)} {
				a, e := wide.Parse(n.String())
				exact(t, "2.3: Parse", a, e, n, n.String())
			}
		}
	}
	for _, s := range []string{
		"170141183460469231731687303715884105728", "-170141183460469231731687303715884105729",
		"1" + strings.Repeat("0", 39), strings.Repeat("9", 39), strings.Repeat("9", 40), strings.Repeat("9", 100000), "-" + strings.Repeat("1", 100000),
	} {
		a, e := wide.Parse(s)
		refused(t, "2.3: Parse", a, e, api.ErrOver)
	}
}

// back fails where a's Text is not its digits, or where they are not read as a.
func back(t *testing.T, a api.Wide) {
	t.Helper()
	s := wide.Text(a)
	if s != valued(a).String() {
		t.Errorf("2.3: Text of %v: %s", a, s)
	}
	b, e := wide.Parse(s)
	if a != b || e != api.OK {
		t.Errorf("2.4: %v is %s, and back %v %d", a, s, b, e)
	}
}

// TestTextBack: 2.4, a number, its text, and back.
func TestTextBack(t *testing.T) {
	rnd := rand.New(rand.NewPCG(2, 5))
	for _, a := range edges() {
		back(t, a)
	}
	for range 20000 {
		back(t, drawn(rnd))
	}
	for k := range 39 {
		for d := int64(-1); d <= 1; d++ {
			n := new(big.Int).Add(tens(k), big.NewInt(d))
			back(t, wided(n))
			back(t, wided(n.Neg(n)))
		}
	}
}

// TestParseBack: 2.4, a text, its number, and back, for all short texts of what
// a number is written with, and of what goes beside it.
func TestParseBack(t *testing.T) {
	const signs = "-+0129.x"
	row := []string{""}
	for len(row) > 0 {
		s := row[0]
		row = row[1:]
		if len(s) < 4 {
			for _, c := range signs {
				row = append(row, s+string(c))
			}
		}
		n, ok := new(big.Int).SetString(s, 10)
		a, e := wide.Parse(s)
		if !ok || n.String() != s {
			refused(t, "2.3: Parse of "+strconv.Quote(s), a, e, api.ErrText)
			continue
		}
		exact(t, "2.3: Parse", a, e, n, s)
		if got := wide.Text(a); got != s {
			t.Errorf("2.4: %s is %v, and back %s", s, a, got)
		}
	}
}
