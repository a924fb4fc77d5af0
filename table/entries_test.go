package table_test

import (
	"cmp"
	"maps"
	"math"
	"math/rand/v2"
	"slices"
	"strings"
	"testing"

	"bursar/api"
	"bursar/table"
)

// TestNew: 4.1, as many entries as a Table may be made for, and nothing in it.
func TestNew(t *testing.T) {
	for _, most := range []int{1, 2, 3, 64, 255, 256, 4095, 4096} {
		holds(t, "4.1: a new one", made[int, int](t, most), nil)
		holds(t, "4.1: a new one", made[string, bool](t, most), nil)
	}
	x := made[string, string](t, 1)
	if v, ok := x.Get(""); v != "" || ok || x.Drop("") {
		t.Errorf("4.1: a new one has an entry %q %v", v, ok)
	}
}

// TestNewErrors: 4.1, as many entries as none may be made for, some of which come
// round to what may be.
func TestNewErrors(t *testing.T) {
	for _, most := range []int{0, -1, -2, -4096, math.MinInt32, math.MinInt, math.MinInt + 1, 4097, 4098, 8192, 1<<16 + 1, math.MaxInt32, 1<<32 + 1, 1<<32 + 4096, math.MaxInt} {
		x, e := table.New[int, int](most)
		if x != nil || e != api.ErrArg {
			t.Errorf("4.1: New(%d): %v %d", most, x, e)
		}
		y, e := table.New[string, []byte](most)
		if y != nil || e != api.ErrArg {
			t.Errorf("4.1: New(%d): %v %d", most, y, e)
		}
	}
}

// TestExample: 4.1, the chapter's example.
func TestExample(t *testing.T) {
	x := made[uint64, string](t, 2)
	same(t, "4.1: Put", []bool{x.Put(5, "a"), x.Put(3, "b"), x.Put(9, "c"), x.Put(5, "d")}, []bool{true, true, false, true})
	same(t, "4.3: Keys", x.Keys(), []uint64{3, 5})
	same(t, "4.3: Values", x.Values(), []string{"b", "d"})
	same(t, "4.2: From", yielded(x.From(4)), []pair[uint64, string]{{5, "d"}})
}

// orders answers the numbers from 0 to n - 1 in several orders.
func orders(n int) map[string][]int {
	up := make([]int, n)
	for i := range up {
		up[i] = i
	}
	down := slices.Clone(up)
	slices.Reverse(down)
	return map[string][]int{"up": up, "down": down, "drawn": rand.New(rand.NewPCG(4, 1)).Perm(n)}
}

// TestFull: 4.1, a Table takes as many keys as it was made for and no more, in any
// order; there is room for another value, and for a new key after a Drop.
func TestFull(t *testing.T) {
	for _, most := range []int{1, 2, 3, 100, 4095, 4096} {
		for order, row := range orders(most) {
			x := made[int, int](t, most)
			m := map[int]int{}
			for _, i := range row {
				if !x.Put(2*i, i) {
					t.Fatalf("4.1: Put of %d keys, %s: false for the %d-th", most, order, len(m)+1)
				}
				m[2*i] = i
			}
			for _, k := range []int{-1, 1, most | 1, 2*most - 1, 2 * most, math.MinInt, math.MaxInt} {
				if x.Put(k, 7) {
					t.Errorf("4.1: Put of %d beyond %d keys, %s: true", k, most, order)
				}
				if v, ok := x.Get(k); v != 0 || ok {
					t.Errorf("4.1: Get of what had no room: %d %v", v, ok)
				}
			}
			holds(t, "4.1: a full one, "+order, x, m)
			last := 2 * row[most-1]
			if !x.Put(last, -1) || x.Len() != most {
				t.Errorf("4.1: Put of another value into a full one, %s: %d", order, x.Len())
			}
			if !x.Drop(last) || !x.Put(2*most, -2) || x.Put(last, -3) {
				t.Errorf("4.1: a full one has room after a Drop, %s, and once: %d of %d", order, x.Len(), most)
			}
			delete(m, last)
			m[2*most] = -2
			holds(t, "4.1: a full one again, "+order, x, m)
		}
	}
}

// TestReplace: 4.1, the last value is the one that counts, and no other changes.
func TestReplace(t *testing.T) {
	for k := 10; k <= 70; k += 10 {
		x, m := tens(t, 7, 9), map[int]int{10: -10, 20: -20, 30: -30, 40: -40, 50: -50, 60: -60, 70: -70}
		for _, v := range []int{5, 0, 5, 6} {
			m[k] = v
			if !x.Put(k, v) {
				t.Errorf("4.1: Put of %d again: false", k)
			}
			holds(t, "4.1: another value", x, m)
		}
	}
}

// TestDrop: 4.1, entries at each place, and keys that have none.
func TestDrop(t *testing.T) {
	for n := range 8 {
		for k := 5; k <= 75; k += 5 {
			x, m := tens(t, n, 8), map[int]int{}
			for k := 10; k <= 10*n; k += 10 {
				m[k] = -k
			}
			_, there := m[k]
			if ok := x.Drop(k); ok != there {
				t.Errorf("4.1: Drop of %d of %d keys: %v", k, n, ok)
			}
			delete(m, k)
			holds(t, "4.1: after a Drop", x, m)
			if v, ok := x.Get(k); v != 0 || ok || x.Drop(k) {
				t.Errorf("4.1: %d is there after its Drop: %d %v", k, v, ok)
			}
			holds(t, "4.1: after two Drops", x, m)
			m[k] = 1
			if !x.Put(k, 1) {
				t.Errorf("4.1: Put of %d after its Drop: false", k)
			}
			holds(t, "4.1: after a Drop and a Put", x, m)
		}
	}
}

// TestSteps: 4.1 and 4.3, many drawn steps.
func TestSteps(t *testing.T) {
	rnd := rand.New(rand.NewPCG(4, 2))
	for _, most := range []int{1, 2, 3, 7, 30} {
		x, m, full := made[int, int](t, most), map[int]int{}, 0
		for n := 0; n < 3000 && !t.Failed(); n++ {
			step(t, rnd, x, m, most)
			if len(m) == most {
				full++
			}
			holds(t, "4.1: after a step", x, m)
			from := rnd.IntN(2*most+2) - 1
			same(t, "4.2: From", yielded(x.From(from)), since(m, from))
		}
		if full < 100 && !t.Failed() {
			t.Errorf("a Table for %d was full after %d steps only", most, full)
		}
	}
}

// ordered fails where a Table does not keep the keys of row, which ascend, in order.
func ordered[K cmp.Ordered](t *testing.T, row ...K) {
	t.Helper()
	for order, places := range orders(len(row)) {
		x := made[K, int](t, len(row))
		for _, i := range places {
			if !x.Put(row[i], i) {
				t.Errorf("4.1: Put of %v, %s: false", row[i], order)
			}
		}
		same(t, "4.3: Keys, "+order, x.Keys(), row)
		for i, k := range row {
			if v, ok := x.Get(k); v != i || !ok {
				t.Errorf("4.1: Get of %v, %s: %d %v", k, order, v, ok)
			}
			want := make([]pair[K, int], 0, len(row))
			for j := i; j < len(row); j++ {
				want = append(want, pair[K, int]{row[j], j})
			}
			same(t, "4.2: From, "+order, yielded(x.From(k)), want)
		}
	}
}

// id and name are types of their own, which are keys too.
type (
	id   uint16
	name string
)

// TestKeys: 4.1, all kinds of numbers and strings, at their limits too.
func TestKeys(t *testing.T) {
	ordered(t, math.MinInt, -10, -9, -1, 0, 1, 9, 10, math.MaxInt)
	ordered[int8](t, -128, -127, -1, 0, 1, 127)
	ordered[int16](t, math.MinInt16, -1, 0, 255, 256, math.MaxInt16)
	ordered[int32](t, math.MinInt32, -1, 0, 1, math.MaxInt32)
	ordered[int64](t, math.MinInt64, math.MinInt64+1, -1, 0, 1, math.MaxInt64)
	ordered[uint](t, 0, 1, 9, 10, math.MaxUint)
	ordered[uint8](t, 0, 1, 127, 128, 255)
	ordered[uint32](t, 0, 1, 1<<31-1, 1<<31, math.MaxUint32)
	ordered[uint64](t, 0, 1, 1<<53, 1<<53+1, 1<<63-1, 1<<63, math.MaxUint64-1, math.MaxUint64)
	ordered[uintptr](t, 0, 1, 2)
	ordered[float32](t, -math.MaxFloat32, -0.5, 0, 0.25, math.MaxFloat32)
	ordered(t, math.Inf(-1), -math.MaxFloat64, -1.5, -1, -math.SmallestNonzeroFloat64, 0, math.SmallestNonzeroFloat64, 0.1, 1, math.Inf(1))
	ordered[id](t, 0, 7, 300, math.MaxUint16)
	ordered[name](t, "", "CHF", "EUR")
	ordered(t, "", "\x00", "\x00\x00", "\x00a", "10", "9", "A", "Z", "a", "a\x00", "aa", "ab", "b", "\x80", "\u00e9", "\u4e16", "\xff", "\xff\xff", strings.Repeat("\xff", 20))
}

// TestZeros: 4.1, the two zeros of floats are one number.
func TestZeros(t *testing.T) {
	x := made[float64, string](t, 1)
	if !x.Put(0, "a") || !x.Put(math.Copysign(0, -1), "b") {
		t.Error("4.1: Put of the other zero: false")
	}
	if v, ok := x.Get(0); v != "b" || !ok || x.Len() != 1 {
		t.Errorf("4.1: Get of a zero: %q %v", v, ok)
	}
	if !x.Drop(math.Copysign(0, -1)) || x.Len() != 0 {
		t.Error("4.1: Drop of the other zero: false")
	}
}

// kept fails where a Table does not keep v, or answers another than zero where none is.
func kept[V comparable](t *testing.T, v V) {
	t.Helper()
	var zero V
	x := made[string, V](t, 2)
	for _, v := range []V{v, zero, v} {
		if !x.Put("k", v) {
			t.Errorf("4.1: Put of %v: false", v)
		}
		if got, ok := x.Get("k"); got != v || !ok {
			t.Errorf("4.1: Get: %v %v, not %v", got, ok, v)
		}
	}
	for _, k := range []string{"", "j", "l", "K", "kk"} {
		if got, ok := x.Get(k); got != zero || ok {
			t.Errorf("4.1: Get of %q, which has none: %v %v", k, got, ok)
		}
	}
	holds(t, "4.1: one value", x, map[string]V{"k": v})
}

// TestValues: 4.1, anything may be a value, nil and nothing too, and its zero is
// answered where a key has none.
func TestValues(t *testing.T) {
	n := 5
	kept(t, 7)
	kept(t, "text")
	kept(t, true)
	kept(t, &n)
	kept(t, [3]int{1, 2, 3})
	kept(t, pair[int, string]{1, "a"})
	kept(t, struct{}{})
	kept[any](t, "any")
	kept(t, api.ErrArg)
	x := made[int, []byte](t, 1)
	if v, ok := x.Get(1); v != nil || ok || !x.Put(1, nil) {
		t.Errorf("4.1: Get of a slice that is not there: %v %v", v, ok)
	}
	if v, ok := x.Get(1); v != nil || !ok {
		t.Errorf("4.1: Get of a nil slice: %v %v", v, ok)
	}
	y := made[int, func() int](t, 1)
	y.Put(1, func() int { return n })
	if f, ok := y.Get(1); !ok || f() != n {
		t.Errorf("4.1: Get of a function: %v", ok)
	}
}

// TestRefused: R3, a Put that answers false changes nothing, wherever the key would lie.
func TestRefused(t *testing.T) {
	for n := 1; n <= 6; n++ {
		x, m := tens(t, n, n), map[int]int{}
		for k := 10; k <= 10*n; k += 10 {
			m[k] = -k
		}
		before := maps.Clone(m)
		for k := 5; k <= 10*n+5; k += 10 {
			if x.Put(k, 1) || x.Drop(k) {
				t.Errorf("4.1: %d finds room in a full one of %d", k, n)
			}
			holds(t, "R3: after a Put that was refused", x, before)
		}
	}
}
