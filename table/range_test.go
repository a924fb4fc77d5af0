package table_test

import (
	"iter"
	"maps"
	"math"
	"math/rand/v2"
	"slices"
	"testing"

	"bursar/table"
)

// entries answers the entries of tens from one key to another.
func entries(from, to int) (row []pair[int, int]) {
	for k := from; k <= to; k += 10 {
		row = append(row, pair[int, int]{k, -k})
	}
	return row
}

// TestAll: 4.2 and 4.3, all entries of Tables of several sizes.
func TestAll(t *testing.T) {
	for _, n := range []int{0, 1, 2, 3, 10, 1000, 4096} {
		x := tens(t, n, 4096)
		same(t, "4.2: All", yielded(x.All()), entries(10, 10*n))
		i, keys, values := 0, x.Keys(), x.Values()
		for k, v := range x.All() {
			if k != keys[i] || v != values[i] {
				t.Fatalf("4.3: All yields %d %d, not %d %d", k, v, keys[i], values[i])
			}
			i++
		}
		if i != n {
			t.Errorf("4.3: All yields %d of %d", i, n)
		}
	}
}

// TestFrom: 4.2, from keys that are there, that lie between, and beyond both ends.
func TestFrom(t *testing.T) {
	for n := range 6 {
		x := tens(t, n, 6)
		for k := -5; k <= 75; k++ {
			least := max(10, (k+9)/10*10)
			same(t, "4.2: From", yielded(x.From(k)), entries(least, 10*n))
			for at := 1; at <= n; at++ {
				want := entries(least, 10*n)
				same(t, "4.2: From, left early", first(x.From(k), at), want[:min(at, len(want))])
			}
		}
		same(t, "4.2: From the least", yielded(x.From(math.MinInt)), entries(10, 10*n))
		same(t, "4.2: From the greatest", yielded(x.From(math.MaxInt)), nil)
	}
	x := made[uint64, string](t, 2)
	x.Put(0, "a")
	x.Put(math.MaxUint64, "b")
	same(t, "4.2: From 0", yielded(x.From(0)), []pair[uint64, string]{{0, "a"}, {math.MaxUint64, "b"}})
	same(t, "4.2: From the greatest", yielded(x.From(math.MaxUint64)), []pair[uint64, string]{{math.MaxUint64, "b"}})
}

// iterators answers iterators of x, with how many of the keys of tens each leaves out.
func iterators(x *table.Table[int, int]) map[int]iter.Seq2[int, int] {
	return map[int]iter.Seq2[int, int]{0: x.All(), 1: x.From(11), 3: x.From(40), 9: x.From(91)}
}

// TestLeftEarly: 4.2 and 4.3, after a break nothing more comes, at each place; the
// iterator yields all again the next time, and the Table is as it was.
func TestLeftEarly(t *testing.T) {
	x := tens(t, 9, 9)
	for less, all := range iterators(x) {
		want := entries(10*less+10, 90)
		for n := 1; n <= len(want)+1; n++ {
			calls := 0
			all(func(k, v int) bool {
				calls++
				return calls < n
			})
			if calls != min(n, len(want)) {
				t.Errorf("4.2: left in the %d-th turn of %d, after %d", n, len(want), calls)
			}
			same(t, "4.2: left early", first(all, n), want[:min(n, len(want))])
			same(t, "4.2: all after that", yielded(all), want)
			same(t, "4.3: the keys", x.Keys(), []int{10, 20, 30, 40, 50, 60, 70, 80, 90})
			same(t, "4.3: the values", x.Values(), []int{-10, -20, -30, -40, -50, -60, -70, -80, -90})
		}
	}
}

// TestLeftByOtherWays: 4.2 and 4.3, a range that a return, a label or a panic leaves.
func TestLeftByOtherWays(t *testing.T) {
	x := tens(t, 4, 4)
	all := x.All()
	to := func(most int) (k int) {
		for k := range all {
			if k >= most {
				return k
			}
		}
		return 0
	}
	same(t, "4.2: left by a return", []int{to(10), to(15), to(30), to(40), to(41)}, []int{10, 20, 30, 40, 0})
	var got []int
outer:
	for k := range all {
		for l := range x.From(k + 1) {
			if l == 40 {
				continue outer
			}
			if k == 30 {
				break outer
			}
			got = append(got, k+l)
		}
	}
	same(t, "4.2: left by a label", got, []int{30, 40, 50})
	func() {
		defer func() {
			if recover() != "left" {
				t.Error("4.2: a panic of the range does not come through")
			}
		}()
		for k := range all {
			x.Drop(k)
			panic("left")
		}
	}()
	same(t, "4.2: left by a panic", yielded(all), entries(20, 40))
	if !x.Put(10, -10) {
		t.Error("4.2: Put after a panic: false")
	}
	same(t, "4.2: left by a panic, then", yielded(all), entries(10, 40))
}

// TestEachTime: 4.2, an iterator yields each time what the Table has then, and not
// what it had when the iterator was made.
func TestEachTime(t *testing.T) {
	x := made[int, int](t, 9)
	all, from := x.All(), x.From(30)
	for range 2 {
		same(t, "4.2: of an empty one", yielded(all), nil)
		same(t, "4.2: of an empty one", yielded(from), nil)
	}
	for n := 1; n <= 9; n++ {
		x.Put(10*n, -10*n)
		for range 2 {
			same(t, "4.2: All, with more", yielded(all), entries(10, 10*n))
			same(t, "4.2: From, with more", yielded(from), entries(30, 10*n))
		}
	}
	for n := 1; n <= 9; n++ {
		x.Drop(10 * n)
		for range 2 {
			same(t, "4.2: All, with less", yielded(all), entries(10*n+10, 90))
			same(t, "4.2: From, with less", yielded(from), entries(max(30, 10*n+10), 90))
		}
	}
	x.Put(40, 4)
	same(t, "4.2: All, with another value", yielded(all), []pair[int, int]{{40, 4}})
	same(t, "4.2: From, with another value", yielded(from), []pair[int, int]{{40, 4}})
}

// TestChanged: 4.2, whatever is changed in whichever turn, all comes that was there
// as it was, and nothing that was not.
func TestChanged(t *testing.T) {
	for what, change := range map[string]func(x *table.Table[int, int], k int){
		"the same dropped":  func(x *table.Table[int, int], k int) { x.Drop(k) },
		"the next dropped":  func(x *table.Table[int, int], k int) { x.Drop(k + 10) },
		"the last dropped":  func(x *table.Table[int, int], k int) { x.Drop(k - 10) },
		"the end dropped":   func(x *table.Table[int, int], k int) { x.Drop(90) },
		"the first dropped": func(x *table.Table[int, int], k int) { x.Drop(10) },
		"the same replaced": func(x *table.Table[int, int], k int) { x.Put(k, 1) },
		"the next replaced": func(x *table.Table[int, int], k int) { x.Put(k+10, 1) },
		"the end replaced":  func(x *table.Table[int, int], k int) { x.Put(90, 1) },
		"one more ahead":    func(x *table.Table[int, int], k int) { x.Put(k+5, 1) },
		"one more behind":   func(x *table.Table[int, int], k int) { x.Put(k-5, 1) },
		"one more at first": func(x *table.Table[int, int], k int) { x.Put(-k, 1) },
		"one more at last":  func(x *table.Table[int, int], k int) { x.Put(100+k, 1) },
		"one for another":   func(x *table.Table[int, int], k int) { x.Drop(k + 10); x.Put(k+11, 1) },
		"all dropped": func(x *table.Table[int, int], k int) {
			for _, k := range x.Keys() {
				x.Drop(k)
			}
		},
		"all replaced": func(x *table.Table[int, int], k int) {
			for _, k := range x.Keys() {
				x.Put(k, 1)
			}
		},
	} {
		for at := 10; at <= 100; at += 10 {
			for less := range iterators(tens(t, 9, 30)) {
				x := tens(t, 9, 30)
				all := iterators(x)[less]
				var got, once []pair[int, int]
				for k, v := range all {
					got = append(got, pair[int, int]{k, v})
					// In each turn, or in one alone.
					if at == 100 || k == at {
						change(x, k)
						once = yielded(all)
					}
				}
				same(t, "4.2: "+what, got, entries(10*less+10, 90))
				if len(once) > 0 {
					same(t, "4.2: "+what+", then", yielded(all), once)
				}
			}
		}
	}
}

// TestChangedFull: 4.2, a full Table that is emptied and filled anew during it.
func TestChangedFull(t *testing.T) {
	const most = 4096
	x := tens(t, most, most)
	var got []pair[int, int]
	for k, v := range x.All() {
		got = append(got, pair[int, int]{k, v})
		if x.Put(k+1, 1) || !x.Drop(k) || !x.Put(k+1, 1) {
			t.Fatalf("4.1: one is taken for another in a full one, at %d: %d", k, x.Len())
		}
	}
	same(t, "4.2: a full one", got, entries(10, 10*most))
	want := make([]int, 0, most)
	for k := 11; k <= 10*most+1; k += 10 {
		want = append(want, k)
	}
	same(t, "4.3: a full one, then", x.Keys(), want)
}

// TestNested: 4.2, iterations of one iterator within another, each of what was there
// when it began.
func TestNested(t *testing.T) {
	x := tens(t, 4, 9)
	all := x.All()
	var outer []pair[int, int]
	for k, v := range all {
		outer = append(outer, pair[int, int]{k, v})
		same(t, "4.2: the inner one", yielded(all), entries(k, 40))
		same(t, "4.2: the inner one, left early", first(all, 1), entries(k, k))
		x.Drop(k)
		same(t, "4.2: the inner one, after a Drop", yielded(all), entries(k+10, 40))
	}
	same(t, "4.2: the outer one", outer, entries(10, 40))
	same(t, "4.2: after both", yielded(all), nil)
}

// TestBeside: 4.2, two iterations of one iterator that go on by turns, the second
// of which begins after a change.
func TestBeside(t *testing.T) {
	x := tens(t, 3, 9)
	all := x.All()
	next, stop := iter.Pull2(all)
	other, halt := iter.Pull2(all)
	defer halt()
	var got, beside []pair[int, int]
	for n := 0; ; n++ {
		k, v, ok := next()
		if !ok {
			break
		}
		got = append(got, pair[int, int]{k, v})
		x.Put(40+k, -40-k)
		if k, v, ok = other(); ok {
			beside = append(beside, pair[int, int]{k, v})
		}
	}
	stop()
	for {
		k, v, ok := other()
		if !ok {
			break
		}
		beside = append(beside, pair[int, int]{k, v})
	}
	same(t, "4.2: the first one", got, entries(10, 30))
	same(t, "4.2: the second one", beside, append(entries(10, 30), entries(50, 50)...))
	same(t, "4.2: after both", yielded(all), append(entries(10, 30), entries(50, 70)...))
}

// TestChangedSteps: 4.2 and 4.3, many drawn steps during each of many iterations,
// some of which are left early.
func TestChangedSteps(t *testing.T) {
	rnd := rand.New(rand.NewPCG(4, 3))
	for _, most := range []int{1, 2, 5, 20} {
		x, m := made[int, int](t, most), map[int]int{}
		for n := 0; n < 500 && !t.Failed(); n++ {
			step(t, rnd, x, m, most)
			from, turns := rnd.IntN(2*most+2)-1, rnd.IntN(2*most)
			all, least := x.From(from), from
			if rnd.IntN(2) == 0 {
				all, least = x.All(), math.MinInt
			}
			// One step more between, for it begins after that.
			step(t, rnd, x, m, most)
			want := since(m, least)
			var got []pair[int, int]
			for k, v := range all {
				if len(got) == turns {
					break
				}
				got = append(got, pair[int, int]{k, v})
				step(t, rnd, x, m, most)
			}
			same(t, "4.2: changed", got, want[:min(turns, len(want))])
			holds(t, "4.2: after it", x, m)
		}
	}
}

// TestRangesChangeNothing: 4.3, neither a whole iteration nor one that is left early
// changes a Table, be it full, or none of its keys be asked for.
func TestRangesChangeNothing(t *testing.T) {
	for n := range 6 {
		x, m := tens(t, n, 5), map[int]int{}
		for k := 10; k <= 10*n; k += 10 {
			m[k] = -k
		}
		before := maps.Clone(m)
		for k := 5; k <= 65; k += 5 {
			for at := 1; at <= 6; at++ {
				first(x.All(), at)
				first(x.From(k), at)
			}
			yielded(x.From(k))
			holds(t, "4.3: after iterations", x, before)
		}
		if room := x.Put(1, 1); room != (n < 5) {
			t.Errorf("4.3: room after iterations over %d of 5: %v", n, room)
		}
	}
}

// TestNoYield: R1, an iterator that is given no function ends, and changes nothing.
func TestNoYield(t *testing.T) {
	for n := range 3 {
		x := tens(t, n, 3)
		x.All()(nil)
		x.From(15)(nil)
		same(t, "R1: after nil", x.Keys(), []int{10, 20}[:n])
	}
}

// TestCollected: 4.3, what the library makes of the iterators.
func TestCollected(t *testing.T) {
	x := tens(t, 5, 5)
	if m := maps.Collect(x.From(25)); !maps.Equal(m, map[int]int{30: -30, 40: -40, 50: -50}) {
		t.Errorf("4.3: collected: %v", m)
	}
	keys := slices.Collect(func(yield func(int) bool) {
		for k := range x.All() {
			if !yield(k) {
				return
			}
		}
	})
	same(t, "4.3: collected", keys, x.Keys())
}
