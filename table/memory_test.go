package table_test

import (
	"cmp"
	"slices"
	"testing"
)

// scrawl writes v over s and over the room behind it.
func scrawl[T any](s []T, v T) {
	s = s[:cap(s)]
	for i := range s {
		s[i] = v
	}
}

// TestResultsAreNew: R2, a caller may write over what was answered, and over the room
// behind it: neither the Table nor another answer knows of that.
func TestResultsAreNew(t *testing.T) {
	for n := range 20 {
		x, m := tens(t, n, 40), map[int]int{}
		for k := 10; k <= 10*n; k += 10 {
			m[k] = -k
		}
		keys, values := x.Keys(), x.Values()
		before, old := slices.Clone(keys), slices.Clone(values)
		scrawl(x.Keys(), 7)
		scrawl(x.Values(), 7)
		holds(t, "R2: after an answer was written over", x, m)
		same(t, "R2: the other keys", keys, before)
		same(t, "R2: the other values", values, old)
		more, others := x.Keys(), x.Values()
		x.Put(10*n+10, 8)
		m[10*n+10] = 8
		scrawl(more, 7)
		scrawl(others, 7)
		holds(t, "R2: the room behind an answer", x, m)
	}
}

// TestAnswersStay: R2, what was answered stays as it is, whatever the Table does.
func TestAnswersStay(t *testing.T) {
	x := tens(t, 5, 9)
	keys, values := x.Keys(), x.Values()
	x.Put(10, 1)
	x.Drop(20)
	x.Put(5, 1)
	x.Put(45, 1)
	x.Drop(50)
	same(t, "R2: keys", keys, []int{10, 20, 30, 40, 50})
	same(t, "R2: values", values, []int{-10, -20, -30, -40, -50})
}

// TestWrittenDuring: R2 and 4.2, answers that are written over during an iteration.
func TestWrittenDuring(t *testing.T) {
	x := tens(t, 5, 9)
	var got []pair[int, int]
	for k, v := range x.All() {
		got = append(got, pair[int, int]{k, v})
		scrawl(x.Keys(), 7)
		scrawl(x.Values(), 7)
	}
	same(t, "R2: All", got, entries(10, 50))
}

// apart fails where two Tables that are made alike know of each other.
func apart[K cmp.Ordered](t *testing.T, a, b K) {
	t.Helper()
	x, y := made[K, string](t, 1), made[K, string](t, 1)
	x.Put(a, "x")
	if y.Len() != 0 || !y.Put(b, "y") || x.Put(b, "x") {
		t.Errorf("R8: one is full, the other is not: %d %d", x.Len(), y.Len())
	}
	all := x.All()
	y.Drop(b)
	y.Put(a, "z")
	holds(t, "R8: one", x, map[K]string{a: "x"})
	holds(t, "R8: the other", y, map[K]string{a: "z"})
	same(t, "R8: the iterator of one", yielded(all), []pair[K, string]{{a, "x"}})
}

// TestApart: R8, two objects do not know of each other.
func TestApart(t *testing.T) {
	apart(t, 1, 2)
	apart(t, "a", "b")
	apart(t, 0.5, -1)
}
