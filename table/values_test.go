package table_test

import (
	"cmp"
	"iter"
	"maps"
	"math/rand/v2"
	"slices"
	"testing"

	"bursar/api"
	"bursar/table"
)

// made answers a new Table.
func made[K cmp.Ordered, V any](t *testing.T, most int) *table.Table[K, V] {
	t.Helper()
	x, e := table.New[K, V](most)
	if x == nil || e != api.OK {
		t.Fatalf("4.1: New(%d): %v %d", most, x, e)
	}
	return x
}

// tens answers a Table for most entries that has the keys 10, 20, .. to 10 n, each
// with its own negative as its value.
func tens(t *testing.T, n, most int) *table.Table[int, int] {
	t.Helper()
	x := made[int, int](t, most)
	for k := 10; k <= 10*n; k += 10 {
		if !x.Put(k, -k) {
			t.Fatalf("4.1: Put of %d, %d of %d: false", k, k/10, most)
		}
	}
	return x
}

// pair is an entry.
type pair[K cmp.Ordered, V any] struct {
	key   K
	value V
}

// of answers the entries of a map in order, by other means than a Table's.
func of[K cmp.Ordered, V any](m map[K]V) (row []pair[K, V]) {
	for _, k := range slices.Sorted(maps.Keys(m)) {
		row = append(row, pair[K, V]{k, m[k]})
	}
	return row
}

// since answers the entries of a map from the key from on.
func since[K cmp.Ordered, V any](m map[K]V, from K) []pair[K, V] {
	return slices.DeleteFunc(of(m), func(p pair[K, V]) bool { return p.key < from })
}

// yielded answers all that an iterator yields.
func yielded[K cmp.Ordered, V any](all iter.Seq2[K, V]) (row []pair[K, V]) {
	for k, v := range all {
		row = append(row, pair[K, V]{k, v})
	}
	return row
}

// first answers what an iterator yields until the range is left, in the n-th turn.
func first[K cmp.Ordered, V any](all iter.Seq2[K, V], n int) (row []pair[K, V]) {
	for k, v := range all {
		row = append(row, pair[K, V]{k, v})
		if len(row) == n {
			break
		}
	}
	return row
}

// same fails where two rows of entries, or of keys or values, differ, and tells what
// stands where they first do, for a row may be long.
func same[T comparable](t *testing.T, what string, got, want []T) {
	t.Helper()
	if slices.Equal(got, want) {
		return
	}
	at := 0
	for at < min(len(got), len(want)) && got[at] == want[at] {
		at++
	}
	shown := func(row []T) []T { return row[at:min(at+12, len(row))] }
	t.Errorf("%s: from the place %d on %v, not %v, of %d, not %d", what, at, shown(got), shown(want), len(got), len(want))
}

// holds fails where x has other entries than m, by any of its methods.
func holds[K cmp.Ordered, V comparable](t *testing.T, what string, x *table.Table[K, V], m map[K]V) {
	t.Helper()
	var keys []K
	var values []V
	row := of(m)
	for _, p := range row {
		keys, values = append(keys, p.key), append(values, p.value)
	}
	for _, k := range keys {
		if v, ok := x.Get(k); v != m[k] || !ok {
			t.Errorf("%s: Get of %v: %v %v, not %v", what, k, v, ok, m[k])
			break
		}
	}
	if x.Len() != len(keys) {
		t.Errorf("%s: Len %d, not %d", what, x.Len(), len(keys))
	}
	same(t, what+": Keys", x.Keys(), keys)
	same(t, what+": Values", x.Values(), values)
	same(t, what+": All", yielded(x.All()), row)
}

// step does one drawn thing to x and to m, which has the same entries and room for
// as many, and fails where x answers otherwise than m would. Its keys are below 2 most.
func step(t *testing.T, rnd *rand.Rand, x *table.Table[int, int], m map[int]int, most int) {
	t.Helper()
	k, v := rnd.IntN(2*most), rnd.Int()
	was, there := m[k]
	if got, ok := x.Get(k); got != was || ok != there {
		t.Errorf("4.1: Get of %d: %d %v, not %d %v", k, got, ok, was, there)
	}
	// Few are dropped, so that x is full again and again.
	if rnd.IntN(3) == 0 {
		if ok := x.Drop(k); ok != there {
			t.Errorf("4.1: Drop of %d: %v", k, ok)
		}
		delete(m, k)
		return
	}
	room := there || len(m) < most
	if ok := x.Put(k, v); ok != room {
		t.Errorf("4.1: Put of %d, %d of %d there: %v", k, len(m), most, ok)
	}
	if room {
		m[k] = v
	}
}
