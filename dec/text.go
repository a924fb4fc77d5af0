package dec

import (
	"cmp"
	"strings"

	"bursar/api"
	"bursar/wide"
)

// Text answers the digits of a, with a point ahead of as many as its scale tells.
func Text(a api.Dec) (string, api.Errno) {
	if !Right(a) {
		return "", api.ErrScale
	}
	digits := strings.TrimPrefix(wide.Text(a.C), "-")
	// Of a small number there are fewer digits than places, and the one ahead of the point.
	digits = strings.Repeat("0", max(0, a.Scale+1-len(digits))) + digits
	if point := len(digits) - a.Scale; a.Scale > 0 {
		digits = digits[:point] + "." + digits[point:]
	}
	if wide.Sign(a.C) == negative {
		digits = "-" + digits
	}
	return digits, api.OK
}

// Parse answers the decimal whose Text is s.
func Parse(s string) (api.Dec, api.Errno) {
	size, minus := strings.CutPrefix(s, "-")
	whole, places, pointed := strings.Cut(size, ".")
	if !plain(whole) || whole[0] == '0' && len(whole) > 1 {
		return api.Dec{}, api.ErrText
	}
	if pointed && !plain(places) || len(places) > api.MaxScale {
		return api.Dec{}, api.ErrText
	}
	digits := cmp.Or(strings.TrimLeft(whole+places, "0"), "0")
	if minus {
		digits = "-" + digits
	}
	// What is left to be wrong wide finds too: a 0 below zero, and what has no place.
	c, e := wide.Parse(digits)
	return made(c, len(places), e)
}

// plain tells whether s is digits alone, at least one.
func plain(s string) bool {
	for i := range len(s) {
		if s[i] < '0' || s[i] > '9' {
			return false
		}
	}
	return s != ""
}
