package cmd_test

import (
	"bytes"
	"math"
	"math/big"
	"math/rand/v2"
	"testing"

	"bursar/api"
	"bursar/cmd"
)

// list is the chapter's table: the fields of each kind, a letter each, in their
// order. S is the Session, Q the Seq, M the Amount.
var list = map[int]string{
	api.Register: "S",
	api.Coin:     "SQAX",
	api.Open:     "SQX",
	api.Outside:  "SQX",
	api.Deposit:  "SQAM",
	api.Withdraw: "SQAM",
	api.Transfer: "SQABM",
	api.Convert:  "SQABM",
	api.Rate:     "SQMXY",
	api.Balance:  "SQA",
	api.Between:  "SQXY",
}

const (
	lastKind   = 11
	allLetters = "SQABMXY"
)

// The least C and the greatest one.
var (
	least = api.Wide{Hi: -1 << 63}
	most  = api.Wide{Hi: 1<<63 - 1, Lo: 1<<64 - 1}
)

// amount answers n / 10^scale.
func amount(n int64, scale int) api.Dec {
	return api.Dec{C: api.Wide{Hi: n >> 63, Lo: uint64(n)}, Scale: scale}
}

// set sets the field of a letter to that of another command.
func set(c *api.Cmd, letter rune, to api.Cmd) {
	switch letter {
	case 'S':
		c.Session = to.Session
	case 'Q':
		c.Seq = to.Seq
	case 'A':
		c.A = to.A
	case 'B':
		c.B = to.B
	case 'M':
		c.Amount = to.Amount
	case 'X':
		c.X = to.X
	case 'Y':
		c.Y = to.Y
	}
}

// ofKind answers the command of a kind that has its fields from the one given.
func ofKind(kind int, from api.Cmd) api.Cmd {
	c := api.Cmd{Kind: kind}
	for _, letter := range list[kind] {
		set(&c, letter, from)
	}
	return c
}

// numbers are some of 64 bits: of each length as a varint the least and the
// greatest, and those beside MaxNumber.
func numbers() []uint64 {
	row := []uint64{0, 1, 2, math.MaxUint64 - 1, math.MaxUint64}
	for k := 7; k < 64; k += 7 {
		row = append(row, 1<<k-1, 1<<k, 1<<k+1)
	}
	return row
}

// ranged are the numbers from 1 to MaxNumber among them.
func ranged() (row []uint64) {
	for _, n := range numbers() {
		if n >= 1 && n < 1<<56 {
			row = append(row, n)
		}
	}
	return row
}

// amounts are decimals of each scale, with Cs from the least to the greatest.
func amounts() (row []api.Dec) {
	for scale := range 19 {
		for _, c := range []api.Wide{{}, {Lo: 1}, {Hi: -1, Lo: 1<<64 - 1}, {Lo: 1<<64 - 1}, {Hi: 1}, {Hi: -1}, {Hi: 63}, {Hi: 64}, {Hi: -64}, {Hi: -65}, least, most} {
			row = append(row, api.Dec{C: c, Scale: scale})
		}
	}
	return row
}

// names are right ones.
func names() []string { return []string{"EUR", "AAA", "ZZZ", "AZM", "ZAY", "BYA"} }

// right calls f with commands of all kinds, at each edge of each field.
func right(f func(c api.Cmd)) {
	base := api.Cmd{Session: 5, Seq: 300, A: 7, B: 200, Amount: amount(-3, 2), X: "EUR", Y: "JPY"}
	for kind := range list {
		each := func(turn func(c *api.Cmd)) {
			c := base
			turn(&c)
			f(ofKind(kind, c))
		}
		for _, n := range ranged() {
			each(func(c *api.Cmd) { c.Session = n })
			each(func(c *api.Cmd) { c.Seq = n })
		}
		for _, n := range numbers() {
			each(func(c *api.Cmd) { c.A = n })
			each(func(c *api.Cmd) { c.B = n })
		}
		for _, a := range amounts() {
			each(func(c *api.Cmd) { c.Amount = a })
		}
		for _, x := range names() {
			each(func(c *api.Cmd) { c.X = x })
			each(func(c *api.Cmd) { c.Y = x })
			each(func(c *api.Cmd) { c.X, c.Y = x, x })
		}
		rnd := rand.New(rand.NewPCG(5, uint64(kind)))
		for range 200 {
			f(ofKind(kind, drawn(rnd)))
		}
	}
}

// drawn answers fields that are right, all lengths of numbers alike often.
func drawn(rnd *rand.Rand) api.Cmd {
	name := func() string {
		return string([]byte{byte('A' + rnd.IntN(26)), byte('A' + rnd.IntN(26)), byte('A' + rnd.IntN(26))})
	}
	n := func(bits int) uint64 { return rnd.Uint64() >> (64 - 1 - rnd.IntN(bits)) }
	a := drawnAmount(rnd)
	return api.Cmd{Session: max(n(56), 1), Seq: max(n(56), 1), A: n(64), B: n(64), Amount: a, X: name(), Y: name()}
}

// drawnAmount answers a decimal of a drawn scale.
func drawnAmount(rnd *rand.Rand) api.Dec {
	c := api.Wide{Hi: int64(rnd.Uint64()) >> rnd.IntN(64), Lo: rnd.Uint64() >> rnd.IntN(64)}
	return api.Dec{C: c, Scale: rnd.IntN(19)}
}

// varint answers n to the base 128, by other means than pack's.
func varint(n *big.Int) (b []byte) {
	base, digit := big.NewInt(128), new(big.Int)
	n = new(big.Int).Set(n)
	for {
		n.DivMod(n, base, digit)
		if n.Sign() == 0 {
			return append(b, byte(digit.Int64()))
		}
		b = append(b, byte(digit.Int64()+128))
	}
}

// num answers the bytes of n by Num.
func num(n uint64) []byte { return varint(new(big.Int).SetUint64(n)) }

// integer answers the bytes of n by Int.
func integer(n int64) []byte {
	x := new(big.Int).Mul(big.NewInt(2), big.NewInt(n))
	if n < 0 {
		x.Neg(x).Sub(x, big.NewInt(1))
	}
	return varint(x)
}

// ofAmount answers the bytes of a: 5.2, its Scale, Hi and Lo.
func ofAmount(a api.Dec) []byte {
	return bytes.Join([][]byte{{byte(a.Scale)}, integer(a.C.Hi), num(a.C.Lo)}, nil)
}

// encoded answers the bytes of c as 5.2 and the table tell them, right or not.
func encoded(c api.Cmd) []byte {
	b := []byte{byte(c.Kind)}
	for _, letter := range list[c.Kind] {
		switch letter {
		case 'S':
			b = append(b, num(c.Session)...)
		case 'Q':
			b = append(b, num(c.Seq)...)
		case 'A':
			b = append(b, num(c.A)...)
		case 'B':
			b = append(b, num(c.B)...)
		case 'M':
			b = append(b, ofAmount(c.Amount)...)
		case 'X':
			b = append(b, c.X...)
		case 'Y':
			b = append(b, c.Y...)
		}
	}
	return b
}

// ofReply answers the bytes of r: 5.3, its Code, Value and Amount.
func ofReply(r api.Reply) []byte {
	return bytes.Join([][]byte{{byte(r.Code)}, num(r.Value), ofAmount(r.Amount)}, nil)
}

// decodes fails where Decode of b is not the command c, or the error e and a zero
// command.
func decodes(t *testing.T, what string, b []byte, c api.Cmd, e api.Errno) {
	t.Helper()
	if got, f := cmd.Decode(b); got != c || f != e {
		t.Errorf("%s: Decode of % x: %+v %d, not %+v %d", what, b, got, f, c, e)
	}
}

// reads fails where ReadReply of b is not the reply r, or the error e and a zero
// reply.
func reads(t *testing.T, what string, b []byte, r api.Reply, e api.Errno) {
	t.Helper()
	if got, f := cmd.ReadReply(b); got != r || f != e {
		t.Errorf("%s: ReadReply of % x: %+v %d, not %+v %d", what, b, got, f, r, e)
	}
}
