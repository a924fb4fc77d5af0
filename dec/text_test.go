package dec_test

import (
	"math/big"
	"math/rand/v2"
	"regexp"
	"strconv"
	"strings"
	"testing"

	"bursar/api"
	"bursar/dec"
)

// TestTexts: 3.3, numbers as the chapter words them, and back.
func TestTexts(t *testing.T) {
	for _, c := range []struct {
		digits string
		scale  int
		text   string
	}{
		{"-5", 2, "-0.05"},
		{"50", 2, "0.50"},
		{"0", 0, "0"},
		{"0", 1, "0.0"},
		{"0", 18, "0.000000000000000000"},
		{"7", 0, "7"},
		{"-7", 0, "-7"},
		{"10", 0, "10"},
		{"10", 1, "1.0"},
		{"-10", 1, "-1.0"},
		{"9", 1, "0.9"},
		{"-9", 1, "-0.9"},
		{"99", 1, "9.9"},
		{"100", 2, "1.00"},
		{"12345", 2, "123.45"},
		{"-12345", 4, "-1.2345"},
		{"-12345", 5, "-0.12345"},
		{"1", 18, "0.000000000000000001"},
		{"-1", 18, "-0.000000000000000001"},
		{"999999999999999999", 18, "0.999999999999999999"},
		{"1000000000000000000", 18, "1.000000000000000000"},
		{mostText, 0, mostText},
		{leastText, 0, leastText},
		{mostText, 18, "170141183460469231731.687303715884105727"},
		{leastText, 3, "-170141183460469231731687303715884105.728"},
		{leastText, 18, "-170141183460469231731.687303715884105728"},
	} {
		a := of(t, c.digits, c.scale)
		if s, e := dec.Text(a); s != c.text || e != api.OK {
			t.Errorf("3.3: Text of %v: %s %d, not %s", a, s, e, c.text)
		}
		if b, e := dec.Parse(c.text); b != a || e != api.OK {
			t.Errorf("3.3: Parse of %s: %v %d, not %v", c.text, b, e, a)
		}
	}
}

// TestParseForm: 3.3, what is not in the form of a Text, however long.
func TestParseForm(t *testing.T) {
	long := strings.Repeat("9", 1000)
	for _, s := range []string{
		"", "-", ".", "-.", "..", "--", "--1", "-+1", "+1", "+0.5", "-0", "-0.0", "-0.00", "-0." + strings.Repeat("0", 18),
		".5", "-.5", "1.", "-1.", "0.", "-0.", "01", "-01", "00", "-00", "00.1", "-00.1", "01.5", "0001",
		"1.2.3", "1..2", "1.-5", "1.+5", "1-", "1.5-", "- 1", " 1", "1 ", "1 .5", "1. 5", "1.5 ", "1.5\n", "\t1",
		"1,5", "1e3", "1.0e3", "0x1", "0x", "1_0", "1.1_0", "a", "1a", "1.a", "1.5a", "a.5", "NaN", "Inf", "1\x00", "\x00", "1.\x00",
		"/", ":", "1/", "1:", "1./", "1.:", "\xb1", "1.\xff", "\u0661", "1.\u0661", "\uff11.5", "1\u066b5", "\u22121.5",
		"0." + strings.Repeat("0", 19), "1." + strings.Repeat("1", 19), "-1." + strings.Repeat("0", 19), "1." + strings.Repeat("0", 274),
		// The form comes ahead of what has no place.
		"0" + mostText + "0", "-0" + mostText + "0", mostText + "0 ", "+" + mostText + "0", mostText + "0.", mostText + "." + strings.Repeat("1", 19),
		long + "x", "x" + long, "0" + long, "-" + long + ".", long + ".x", long + "." + long, "0." + long, "." + long, long + ".1.1", "--" + long,
		strings.Repeat("0", 1000), strings.Repeat("-", 1000), strings.Repeat(".", 1000),
	} {
		a, e := dec.Parse(s)
		refused(t, "3.3: Parse", a, e, api.ErrText, strconv.Quote(s))
	}
}

// pointed answers the text of n / 10^scale, by other means than Text.
func pointed(n *big.Int, scale int) string {
	return new(big.Rat).SetFrac(n, ten(scale)).FloatString(scale)
}

// TestParseRange: 3.3, with each scale, Cs around each limit, and greater ones.
func TestParseRange(t *testing.T) {
	for _, p := range []*big.Int{ten(0), ten(18), ten(19), ten(37), ten(38), ten(39), ten(40), ten(76), whole(t, mostText), new(big.Int).Lsh(ten(0), 64), new(big.Int).Lsh(ten(0), 128)} {
		for d := int64(-2); d <= 2; d++ {
			n := new(big.Int).Add(p, big.NewInt(d))
			for scale := range api.MaxScale + 1 {
				for _, n := range []*big.Int{n, new(big.Int).Neg(n)} {
					s := pointed(n, scale)
					a, e := dec.Parse(s)
					exact(t, "3.3: Parse", a, e, n, scale, s)
				}
			}
		}
	}
	for _, s := range []string{
		"170141183460469231731687303715884105728", "-170141183460469231731687303715884105729",
		"17014118346046923173168730371588410572.8", "-17014118346046923173168730371588410572.9",
		"170141183460469231731.687303715884105728", "-170141183460469231731.687303715884105729",
		"1" + strings.Repeat("0", 39) + ".0", strings.Repeat("9", 100000), "-" + strings.Repeat("9", 100000) + "." + strings.Repeat("0", 18),
	} {
		a, e := dec.Parse(s)
		refused(t, "3.3: Parse", a, e, api.ErrOver, s[:min(len(s), 50)])
	}
}

// back fails where a's Text is not its digits, or where they are not read as a.
func back(t *testing.T, a api.Dec) {
	t.Helper()
	s, e := dec.Text(a)
	if s != pointed(unscaled(a), a.Scale) || e != api.OK {
		t.Errorf("3.3: Text of %v: %s %d", a, s, e)
	}
	if b, e := dec.Parse(s); a != b || e != api.OK {
		t.Errorf("3.4: %v is %s, and back %v %d", a, s, b, e)
	}
}

// TestTextBack: 3.4, a decimal, its text, and back.
func TestTextBack(t *testing.T) {
	for _, a := range edges(t) {
		back(t, a)
	}
	rnd := rand.New(rand.NewPCG(3, 3))
	for range 20000 {
		back(t, drawn(rnd))
	}
	for scale := range api.MaxScale + 1 {
		for v := int64(-120); v <= 120; v++ {
			back(t, of(t, strconv.FormatInt(v, 10), scale))
		}
	}
}

// TestParseBack: 3.4, a text, its decimal, and back, for all short texts of what a
// decimal is written with, and of what goes beside it.
func TestParseBack(t *testing.T) {
	form := regexp.MustCompile(`^-?(0|[1-9][0-9]*)(\.[0-9]{1,18})?$`)
	noZero := regexp.MustCompile(`^[^-]|[1-9]`)
	right := 0
	row := []string{""}
	for len(row) > 0 {
		s := row[0]
		row = row[1:]
		if len(s) < 5 {
			for _, c := range "-+.019x" {
				row = append(row, s+string(c))
			}
		}
		a, e := dec.Parse(s)
		if !form.MatchString(s) || !noZero.MatchString(s) {
			refused(t, "3.3: Parse", a, e, api.ErrText, s)
			continue
		}
		right++
		if text, f := dec.Text(a); e != api.OK || text != s || f != api.OK {
			t.Errorf("3.4: %s is %v %d, and back %s %d", s, a, e, text, f)
		}
	}
	if right < 500 {
		t.Errorf("only %d texts were right", right)
	}
}

// TestParsePlaces: 3.3 and 3.4, as many digits behind the point as there may be.
func TestParsePlaces(t *testing.T) {
	for n := 1; n <= 30; n++ {
		for _, s := range []string{"0." + strings.Repeat("0", n), "0." + strings.Repeat("0", n-1) + "1", "-7." + strings.Repeat("1", n), "12." + strings.Repeat("0", n)} {
			a, e := dec.Parse(s)
			if n > api.MaxScale {
				refused(t, "3.3: Parse", a, e, api.ErrText, s)
				continue
			}
			if text, f := dec.Text(a); e != api.OK || a.Scale != n || text != s || f != api.OK {
				t.Errorf("3.4: %s is %v %d, and back %s %d", s, a, e, text, f)
			}
		}
	}
}
