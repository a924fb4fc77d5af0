package wide

import (
	"math/bits"
	"strconv"
	"strings"

	"bursar/api"
)

// Text answers the digits of a.
func Text(a api.Wide) string {
	m, minus := sized(a)
	// No number is greater than 2^127, so what goes ahead of its last 19 digits
	// has a place in a word.
	high, low := bits.Div64(m.hi, m.lo, ten(wordTens))
	s := strconv.FormatUint(low, 10)
	if high > 0 {
		s = strconv.FormatUint(high, 10) + strings.Repeat("0", wordTens-len(s)) + s
	}
	if minus {
		return "-" + s
	}
	return s
}

// Parse answers the number whose Text is s.
func Parse(s string) (api.Wide, api.Errno) {
	digits, minus := strings.CutPrefix(s, "-")
	if !plain(digits) || minus && digits == "0" {
		return api.Wide{}, api.ErrText
	}
	at := max(0, len(digits)-wordTens)
	low, _ := word(digits[at:])
	high, fits := word(digits[:at])
	if !fits {
		return api.Wide{}, api.ErrOver
	}
	hi, lo := bits.Mul64(high, ten(wordTens))
	lo, carry := bits.Add64(lo, low, 0)
	return size{hi + carry, lo}.signed(minus)
}

// plain tells whether s is digits alone, with no 0 ahead of others.
func plain(s string) bool {
	if s == "" || s[0] == '0' && len(s) > 1 {
		return false
	}
	for i := range len(s) {
		if s[i] < '0' || s[i] > '9' {
			return false
		}
	}
	return true
}

// word answers the number of some digits, of none 0, and whether a word has a
// place for it.
func word(digits string) (uint64, bool) {
	if digits == "" {
		return 0, true
	}
	// The rest need not look at as many digits as there may be.
	if len(digits) > wordTens+1 {
		return 0, false
	}
	n, err := strconv.ParseUint(digits, 10, 64)
	return n, err == nil
}
