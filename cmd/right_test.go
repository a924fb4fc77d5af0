package cmd_test

import (
	"math"
	"strings"
	"testing"

	"bursar/api"
	"bursar/cmd"
)

// TestNames: 5.1, three bytes from A to Z.
func TestNames(t *testing.T) {
	for x := byte('A'); x <= 'Z'; x++ {
		for y := byte('A'); y <= 'Z'; y++ {
			for z := byte('A'); z <= 'Z'; z++ {
				if s := string([]byte{x, y, z}); !cmd.Name(s) {
					t.Errorf("5.1: Name of %q: false", s)
				}
			}
		}
	}
}

// wrongNames are none, each for one thing: how many bytes there are, or one that
// is no letter from A to Z, whatever its place.
func wrongNames() []string {
	row := []string{
		"", "E", "EU", "EURO", "EUREUR", "eur", "EuR", "EUR ", " EUR", "EUR\x00", "\x00\x00\x00",
		"\u00c4U", "\u00c4\u00c4\u00c4", "\u0415", "\uff25", "\uff25\uff35\uff32", "123", "---", strings.Repeat("A", 1000), strings.Repeat("A", 3+256),
	}
	for c := range 256 {
		if b := byte(c); b < 'A' || b > 'Z' {
			row = append(row, string([]byte{b, 'A', 'Z'}), string([]byte{'A', b, 'Z'}), string([]byte{'A', 'Z', b}))
		}
	}
	return row
}

// TestWrongNames: 5.1, any other string.
func TestWrongNames(t *testing.T) {
	for _, s := range wrongNames() {
		if cmd.Name(s) {
			t.Errorf("5.1: Name of %q: true", s)
		}
	}
}

// refused fails where c is right, or where Encode answers anything but ErrArg and
// no bytes.
func refused(t *testing.T, what string, c api.Cmd) {
	t.Helper()
	b, e := cmd.Encode(c)
	if cmd.Right(c) || e != api.ErrArg || len(b) != 0 {
		t.Errorf("%s: %#v: Right %v, Encode % x %d", what, c, cmd.Right(c), b, e)
	}
}

// TestRight: Right, each kind with each edge of its fields.
func TestRight(t *testing.T) {
	kinds := map[int]int{}
	right(func(c api.Cmd) {
		kinds[c.Kind]++
		if !cmd.Right(c) {
			t.Errorf("Right of %+v: false", c)
		}
	})
	if len(kinds) != lastKind {
		t.Errorf("there are %d kinds", len(kinds))
	}
}

// full answers a command of a kind with other numbers in each of its fields.
func full(kind int) api.Cmd {
	return ofKind(kind, api.Cmd{Session: 5, Seq: 6, A: 7, B: 8, Amount: amount(9, 2), X: "EUR", Y: "JPY"})
}

// TestWrongKinds: Right, a kind that is not in the table, with no field and with
// those of each kind; some of them come round to one that is.
func TestWrongKinds(t *testing.T) {
	for _, kind := range []int{0, 12, 13, 127, 128, 255, 256, 257, 267, -1, -11, -255, -256 + 3, 1 << 16, 1<<32 + 1, 1<<32 + 11, math.MinInt, math.MinInt + 1, math.MaxInt} {
		refused(t, "Kind", api.Cmd{Kind: kind})
		for like := range list {
			c := full(like)
			c.Kind = kind
			refused(t, "Kind", c)
		}
	}
}

// wrong are values that a field may not have, by its letter.
func wrong() map[rune][]api.Cmd {
	w := map[rune][]api.Cmd{}
	for _, n := range []uint64{0, 1 << 56, 1<<56 + 1, 1 << 57, 1 << 63, 1<<63 + 1, math.MaxUint64} {
		w['S'] = append(w['S'], api.Cmd{Session: n})
		w['Q'] = append(w['Q'], api.Cmd{Seq: n})
	}
	for _, scale := range []int{-1, -2, -18, -256, math.MinInt, 19, 20, 255, 256, 256 + 18, 1 << 32, math.MaxInt} {
		for _, n := range []int64{0, 1, -1} {
			w['M'] = append(w['M'], api.Cmd{Amount: amount(n, scale)})
		}
	}
	for _, s := range wrongNames() {
		w['X'] = append(w['X'], api.Cmd{X: s})
		w['Y'] = append(w['Y'], api.Cmd{Y: s})
	}
	return w
}

// TestWrongFields: Right, a field that a kind has, with what it may not be.
func TestWrongFields(t *testing.T) {
	for letter, row := range wrong() {
		for kind, fields := range list {
			for _, to := range row {
				c := full(kind)
				set(&c, letter, to)
				if strings.ContainsRune(fields, letter) {
					refused(t, "a field "+string(letter), c)
				}
			}
		}
	}
}

// TestForeignFields: Right, a field that a kind does not have must be zero, also
// where what it is would do for another kind.
func TestForeignFields(t *testing.T) {
	n, tried := uint64(math.MaxUint64), 0
	row := []api.Cmd{
		{Session: 1, Seq: 1, A: 1, B: 1, Amount: amount(1, 0), X: "EUR", Y: "EUR"},
		{Session: n, Seq: n, A: n, B: n, Amount: api.Dec{C: least, Scale: 18}, X: "x", Y: "x"},
		{Session: 1 << 56, Seq: 1 << 56, A: 1 << 32, B: 1 << 63, Amount: amount(0, 1), X: "\x00", Y: "\x00"},
		{Session: 1 << 8, Seq: 1 << 8, A: 1 << 8, B: 1 << 8, Amount: api.Dec{C: api.Wide{Hi: 1}}, X: "AAA", Y: "AAA"},
		{Session: 5, Seq: 5, A: 5, B: 5, Amount: amount(0, -1), X: " ", Y: " "},
		{Session: 5, Seq: 5, A: 5, B: 5, Amount: amount(0, 19), X: "ZZZZ", Y: "ZZZZ"},
	}
	for kind, fields := range list {
		for _, letter := range allLetters {
			if strings.ContainsRune(fields, letter) {
				continue
			}
			for _, to := range row {
				c := full(kind)
				set(&c, letter, to)
				refused(t, "a field "+string(letter), c)
				tried++
			}
		}
	}
	// Eleven kinds with seven fields each, of which the table lists 41.
	if tried != (11*7-41)*len(row) {
		t.Errorf("only %d were tried", tried)
	}
	refused(t, "the chapter's example", api.Cmd{Kind: api.Register, Session: 5, Seq: 1})
}

// TestAnyNumbers: Right, an amount may be zero and below zero, and accounts and
// currencies may be alike: what they mean is asked elsewhere.
func TestAnyNumbers(t *testing.T) {
	for _, c := range []api.Cmd{
		{Kind: api.Transfer, Session: 1, Seq: 1},
		{Kind: api.Convert, Session: 1, Seq: 1, A: 4, B: 4, Amount: amount(-1, 18)},
		{Kind: api.Coin, Session: 1, Seq: 1, A: math.MaxUint64, X: "AAA"},
		{Kind: api.Rate, Session: 1, Seq: 1, Amount: api.Dec{C: least}, X: "EUR", Y: "EUR"},
		{Kind: api.Between, Session: 1, Seq: 1, X: "EUR", Y: "EUR"},
		{Kind: api.Balance, Session: api.MaxNumber, Seq: api.MaxNumber},
	} {
		if !cmd.Right(c) {
			t.Errorf("Right of %+v: false", c)
		}
	}
}
