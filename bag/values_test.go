package bag_test

import (
	"math"
	"math/rand/v2"
	"reflect"
	"slices"
	"testing"

	"bursar/api"
	"bursar/bag"
)

// made answers a new Bag.
func made[T any](t *testing.T, most int) *bag.Bag[T] {
	t.Helper()
	b, e := bag.New[T](most)
	if b == nil || e != api.OK {
		t.Fatalf("13.1: New(%d): %v %d", most, b, e)
	}
	return b
}

// filled answers a Bag for most items that has row in it.
func filled[T any](t *testing.T, most int, row ...T) *bag.Bag[T] {
	t.Helper()
	b := made[T](t, most)
	for i, x := range row {
		if !b.Put(x) {
			t.Fatalf("13.1: Put of item %d into a Bag for %d: false", i, most)
		}
	}
	return b
}

// tens answers 10, 20, .. to 10 n.
func tens(n int) []int {
	row := make([]int, n)
	for i := range row {
		row[i] = 10*i + 10
	}
	return row
}

// without answers the items of row but item k, in memory of their own.
func without[T any](row []T, k int) []T {
	var rest []T
	for i, x := range row {
		if i != k {
			rest = append(rest, x)
		}
	}
	return rest
}

// with answers the items of row and x behind them, in memory of their own.
func with[T any](row []T, x T) []T { return append(slices.Clip(row), x) }

// outside answers numbers of which a Bag with n items has none: right beside those that
// it has, the least and the greatest, and some that come round to 0 or 1 in fewer bits.
func outside(n int) []int {
	return []int{
		-1, -2, -n - 1, n, n + 1, 2*n + 1,
		api.MaxBag, api.MaxBag + 1, 1 << 16, 1<<16 + 1, 1 << 32, 1<<32 + 1, -1 << 8, -1 << 16, -1 << 32, 1 - 1<<32,
		math.MinInt32, math.MaxInt32, math.MinInt, math.MinInt + 1, math.MaxInt - 1, math.MaxInt,
	}
}

// same fails where two items, or two rows of items, are not the same.
func same[T any](t *testing.T, what string, got, want T) {
	t.Helper()
	if !reflect.DeepEqual(got, want) {
		t.Errorf("%s: %v, not %v", what, got, want)
	}
}

// none fails where b answers an item by the number k.
func none[T any](t *testing.T, what string, b *bag.Bag[T], k int) {
	t.Helper()
	var zero T
	x, ok := b.Peek(k)
	if ok || !reflect.DeepEqual(x, zero) {
		t.Errorf("%s: Peek(%d) of %d items: %v %v", what, k, b.Len(), x, ok)
	}
	x, ok = b.Take(k)
	if ok || !reflect.DeepEqual(x, zero) {
		t.Errorf("%s: Take(%d) of %d items: %v %v", what, k, b.Len(), x, ok)
	}
	if b.Double(k) {
		t.Errorf("%s: Double(%d) of %d items: true", what, k, b.Len())
	}
}

// holds fails where b has other items than those of row, or has lost another number of
// them, by any of its methods.
func holds[T any](t *testing.T, what string, b *bag.Bag[T], row []T, lost int) {
	t.Helper()
	if b.Len() != len(row) || b.Lost() != lost {
		t.Errorf("%s: Len %d and Lost %d, not %d and %d", what, b.Len(), b.Lost(), len(row), lost)
	}
	all := b.All()
	if len(all) != len(row) || len(row) > 0 && !reflect.DeepEqual(all, row) {
		t.Errorf("%s: All %v, not %v", what, all, row)
	}
	for k, want := range row {
		if x, ok := b.Peek(k); !ok || !reflect.DeepEqual(x, want) {
			t.Errorf("%s: Peek(%d): %v %v, not %v", what, k, x, ok, want)
		}
	}
	for _, k := range []int{-1, len(row)} {
		if x, ok := b.Peek(k); ok {
			t.Errorf("%s: Peek(%d) of %d items: %v", what, k, len(row), x)
		}
	}
}

// model is a Bag of numbers as the chapter tells it, by other means than package bag's:
// each step makes a new row.
type model struct {
	most, lost int
	row        []int
}

// take does what Take does.
func (m *model) take(k int) (int, bool) {
	if k < 0 || k >= len(m.row) {
		return 0, false
	}
	x := m.row[k]
	m.row = without(m.row, k)
	return x, true
}

// put does what Put does.
func (m *model) put(x int) bool {
	if len(m.row) == m.most {
		m.lost++
		return false
	}
	m.row = with(m.row, x)
	return true
}

// double does what Double does.
func (m *model) double(k int) bool {
	if k < 0 || k >= len(m.row) || len(m.row) == m.most {
		return false
	}
	m.row = with(m.row, m.row[k])
	return true
}

// step does one drawn thing to b and to m, and fails where they answer differently.
func step(t *testing.T, rnd *rand.Rand, b *bag.Bag[int], m *model) {
	t.Helper()
	// Now and then a number that no item has.
	k := rnd.IntN(len(m.row)+3) - 1
	switch rnd.IntN(4) {
	case 0:
		x, ok := b.Take(k)
		want, there := m.take(k)
		if x != want || ok != there {
			t.Errorf("13.1: Take(%d): %d %v, not %d %v", k, x, ok, want, there)
		}
	case 1:
		if ok, want := b.Double(k), m.double(k); ok != want {
			t.Errorf("13.1: Double(%d): %v, not %v", k, ok, want)
		}
	default:
		x := rnd.Int()
		if ok, want := b.Put(x), m.put(x); ok != want {
			t.Errorf("13.1: Put, %d of %d there: %v, not %v", len(m.row), m.most, ok, want)
		}
	}
}
