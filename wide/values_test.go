package wide_test

import (
	"math/big"
	"math/rand/v2"
	"testing"

	"bursar/api"
	"bursar/wide"
)

// The chapter's limits, written out as its texts and as its fields.
const (
	leastText = "-170141183460469231731687303715884105728"
	mostText  = "170141183460469231731687303715884105727"
)

var (
	least = api.Wide{Hi: -1 << 63}
	most  = api.Wide{Hi: 1<<63 - 1, Lo: 1<<64 - 1}
	none  = api.Wide{}
)

// two answers 2^k.
func two(k uint) *big.Int { return new(big.Int).Lsh(big.NewInt(1), k) }

// tens answers 10^k.
func tens(k int) *big.Int { return new(big.Int).Exp(big.NewInt(10), big.NewInt(int64(k)), nil) }

// valued answers what a stands for: 2.1, Hi times 2^64 plus Lo.
func valued(a api.Wide) *big.Int {
	n := new(big.Int).Mul(big.NewInt(a.Hi), two(64))
	return n.Add(n, new(big.Int).SetUint64(a.Lo))
}

// fits tells whether n is in the range of 2.1.
func fits(n *big.Int) bool {
	return n.Cmp(new(big.Int).Neg(two(127))) >= 0 && n.Cmp(two(127)) < 0
}

// wided answers the wide number n, which fits.
func wided(n *big.Int) api.Wide {
	hi := new(big.Int).Rsh(n, 64) // down, also below zero
	lo := new(big.Int).Sub(n, new(big.Int).Mul(hi, two(64)))
	return api.Wide{Hi: hi.Int64(), Lo: lo.Uint64()}
}

// number answers the wide number of digits, by other means than Parse.
func number(t *testing.T, s string) api.Wide {
	t.Helper()
	n, ok := new(big.Int).SetString(s, 10)
	if !ok || !fits(n) {
		t.Fatalf("%s is no wide number", s)
	}
	return wided(n)
}

// exact fails where a and e are not what comes of the exact result n: n itself,
// or ErrOver and a zero value.
func exact(t *testing.T, what string, a api.Wide, e api.Errno, n *big.Int, of ...any) {
	t.Helper()
	if fits(n) && (e != api.OK || a != wided(n)) {
		t.Errorf("%s of %v: %v %d, not %s", what, of, a, e, n)
	}
	if !fits(n) && (e != api.ErrOver || a != none) {
		t.Errorf("%s of %v: %v %d, though %s is out of range", what, of, a, e, n)
	}
}

// refused fails where a and e are not the error f and a zero value.
func refused(t *testing.T, what string, a api.Wide, e, f api.Errno) {
	t.Helper()
	if a != none || e != f {
		t.Errorf("%s: %v %d, not the error %d", what, a, e, f)
	}
}

// edges are numbers around powers of two and of ten, and the limits.
func edges() []api.Wide {
	var at []*big.Int
	for _, k := range []uint{1, 2, 31, 32, 62, 63, 64, 65, 95, 96, 126, 127} {
		at = append(at, two(k))
	}
	for _, k := range []int{0, 1, 9, 18, 19, 20, 36, 37, 38} {
		at = append(at, tens(k))
	}
	seen := map[api.Wide]int{}
	var row []api.Wide
	for _, p := range at {
		for d := int64(-2); d <= 2; d++ {
			n := new(big.Int).Add(p, big.NewInt(d))
			for _, n := range []*big.Int{n, new(big.Int).Neg(n)} {
				if !fits(n) || seen[wided(n)] > 0 {
					continue
				}
				seen[wided(n)]++
				row = append(row, wided(n))
			}
		}
	}
	return row
}

// drawn answers some number: all lengths come up alike often, of both signs.
func drawn(rnd *rand.Rand) api.Wide {
	n := new(big.Int).Lsh(new(big.Int).SetUint64(rnd.Uint64()), 64)
	n.Add(n, new(big.Int).SetUint64(rnd.Uint64()))
	n.Rsh(n, 1+uint(rnd.IntN(127)))
	if rnd.IntN(2) == 0 {
		n.Neg(n)
	}
	return wided(n)
}

// pairs calls f with each edge and each other, and with many drawn ones.
func pairs(f func(a, b api.Wide)) {
	row := edges()
	for _, a := range row {
		for _, b := range row {
			f(a, b)
		}
	}
	rnd := rand.New(rand.NewPCG(2, 1))
	for range 20000 {
		f(drawn(rnd), drawn(rnd))
	}
}

// TestEdges: the edges of the tests are those that the chapter names.
func TestEdges(t *testing.T) {
	at := map[api.Wide]int{}
	for _, a := range edges() {
		at[a]++
	}
	for _, a := range []api.Wide{least, most, none, {Lo: 1}, {Hi: -1, Lo: 1<<64 - 1}, {Hi: 1}, {Lo: 1<<64 - 1}, {Hi: -1}, {Hi: 1 << 62}, wide.Of(-1 << 63)} {
		if at[a] != 1 {
			t.Errorf("%v is %d times among the edges", a, at[a])
		}
	}
}
