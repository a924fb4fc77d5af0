package seg_test

import (
	"math"
	"math/rand/v2"
	"slices"
	"strings"
	"testing"

	"bursar/api"
	"bursar/seg"
)

// TestName: 9.1, what segments are called, at the edges of what an index may be.
func TestName(t *testing.T) {
	for first, want := range map[uint64]string{
		5:                  "s000000000000005",
		0:                  "s000000000000000",
		1:                  "s000000000000001",
		9:                  "s000000000000009",
		10:                 "s00000000000000a",
		15:                 "s00000000000000f",
		16:                 "s000000000000010",
		0xabcdef:           "s000000000abcdef",
		0x123456789abcde:   "s0123456789abcde",
		1 << 52:            "s010000000000000",
		mostNumber - 1:     "s0fffffffffffffe",
		mostNumber:         "s0ffffffffffffff",
		mostNumber + 1:     "",
		mostNumber + 2:     "",
		1<<60 - 1:          "",
		1 << 60:            "",
		1 << 63:            "",
		math.MaxUint64:     "",
		math.MaxUint64 - 9: "",
	} {
		if got := seg.Name(first); got != want {
			t.Errorf("9.1: Name(%d): %q, not %q", first, got, want)
		}
	}
}

// TestNames: 9.1, drawn indexes: their names are apart, and in their order.
func TestNames(t *testing.T) {
	rnd := rand.New(rand.NewPCG(9, 1))
	var firsts []uint64
	for range 2000 {
		firsts = append(firsts, rnd.Uint64N(mostNumber+1)>>rnd.IntN(56))
	}
	slices.Sort(firsts)
	firsts = slices.Compact(firsts)
	before := ""
	for _, first := range firsts {
		got := seg.Name(first)
		if got != name(first) || len(got) != api.MaxName || strings.Compare(before, got) >= 0 {
			t.Errorf("9.1: Name(%x): %q, behind %q", first, got, before)
		}
		before = got
	}
}

// foreign are names that are nearly results of Name.
func foreign() []string {
	return []string{
		"other", "s", "s5", "S000000000000005", "s00000000000000A", "s00000000000000F", "s00000000000000G", "s00000000000000g",
		"s00000000000005", "t000000000000005", "r000000000000005", "0000000000000005", "s_00000000000005", "s0_0000000000005",
		"s+00000000000005", "s-00000000000005", "s 00000000000005", "s00000000000005 ", "s0x0000000000005", "s0X0000000000005", "ss00000000000005",
		"s100000000000005", "s100000000000000", "sffffffffffffff", "sfffffffffffffff", "s00000000000000.", "s\x00\x00\x00\x00\x005", "s0000000000000５",
	}
}

// TestForeign: 9.2, files with other names are not read, do not end the log, and stay.
func TestForeign(t *testing.T) {
	mine := named(map[uint64]string{5: file(none(2, 5), none(2, 6)), 7: file(none(2, 7))})
	for _, n := range foreign() {
		for _, s := range []string{"", "x", file(none(2, 5)), file(none(2, 8))} {
			if len(n) > api.MaxName {
				continue
			}
			d := made(t, mostRoom, map[string]string{n: s})
			l := opened(t, d, leastLimit)
			holds(t, "9.2: a foreign file alone, "+n, l, nil)
			lies(t, "9.2: a foreign file alone, "+n, d, map[string]string{n: s})
			whole := map[string]string{n: s}
			for name, s := range mine {
				whole[name] = s
			}
			d = made(t, mostRoom, whole)
			l = opened(t, d, leastLimit)
			holds(t, "9.2: a foreign file, "+n, l, row(none(2, 5), none(2, 6), none(2, 7)))
			lies(t, "9.2: a foreign file, "+n, d, whole)
			asks(t, "9.4: beside a foreign file", l, reset(), api.OK)
			lies(t, "9.4: a foreign file after a Reset, "+n, d, map[string]string{n: s})
		}
	}
}
