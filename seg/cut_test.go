package seg_test

import (
	"fmt"
	"math"
	"testing"

	"bursar/api"
)

// segments answers what must lie on the disk: files of runs of term 2, each from one
// number to another.
func segments(ends ...[2]uint64) map[string]string {
	m := map[string]string{}
	for _, x := range ends {
		m[name(x[0])] = file(run(2, x[0], x[1])...)
	}
	return m
}

// shortens asks a call of a log that has 50 to 54 in three segments, the last one of a
// single entry, and fails where it does not leave the entries from first to last in some
// files, by so many operations of the disk; or where it leaves other than a log that is
// opened anew, or one to which the next entry can't be appended.
func shortens(t *testing.T, c call, first, last uint64, operations int, left map[string]string) {
	t.Helper()
	what := fmt.Sprintf("9.4: %s(%d)", c.what, c.index)
	d, l := begun(t, leastLimit, run(2, 50, 54)...)
	lies(t, "9.4: at the beginning", d, segments([2]uint64{50, 51}, [2]uint64{52, 53}, [2]uint64{54, 54}))
	d.Sync()
	asks(t, what, l, c, api.OK)
	want := run(2, first, last)
	holds(t, what, l, want)
	lies(t, what, d, left)
	if d.Pending() != operations {
		t.Errorf("9.5: %s: %d operations, not %d", what, d.Pending(), operations)
	}
	holds(t, what+", opened anew", opened(t, d, leastLimit), want)
	if d.Pending() != operations {
		t.Errorf("9.5: %s, opened anew: %d operations, not %d", what, d.Pending(), operations)
	}
	next := uint64(7)
	if last >= first {
		next = last + 1
		asks(t, what+", a gap behind it", l, add(none(2, next+1)), api.ErrArg)
		asks(t, what+", a term that falls behind it", l, add(none(1, next)), api.ErrArg)
	}
	more := run(3, next, next+3)
	asks(t, what+", appended to", l, add(more...), api.OK)
	holds(t, what+", appended to", l, append(want, more...))
	holds(t, what+", appended to, opened anew", opened(t, d, leastLimit), append(want, more...))
}

// TestCut: 9.4, at each index, ahead of them and behind them.
func TestCut(t *testing.T) {
	a, b, c := [2]uint64{50, 51}, [2]uint64{52, 53}, [2]uint64{54, 54}
	for _, index := range []uint64{0, 1, 49, 50} {
		shortens(t, cut(index), 1, 0, 3, nil)
	}
	shortens(t, cut(51), 50, 50, 3, segments([2]uint64{50, 50}))
	shortens(t, cut(52), 50, 51, 2, segments(a))
	shortens(t, cut(53), 50, 52, 2, segments(a, [2]uint64{52, 52}))
	shortens(t, cut(54), 50, 53, 1, segments(a, b))
	for _, index := range []uint64{55, 56, 99, mostNumber, mostNumber + 1, math.MaxUint64} {
		shortens(t, cut(index), 50, 54, 0, segments(a, b, c))
	}
}

// TestDrop: 9.4, at each index, ahead of them and behind them.
func TestDrop(t *testing.T) {
	a, b, c := [2]uint64{50, 51}, [2]uint64{52, 53}, [2]uint64{54, 54}
	for _, index := range []uint64{0, 1, 49, 50} {
		shortens(t, drop(index), 50, 54, 0, segments(a, b, c))
	}
	for _, index := range []uint64{51, 52} {
		shortens(t, drop(index), 52, 54, 1, segments(b, c))
	}
	for _, index := range []uint64{53, 54, 55, 99, mostNumber, mostNumber + 1, math.MaxUint64} {
		shortens(t, drop(index), 54, 54, 2, segments(c))
	}
}

// TestReset: 9.4, all goes.
func TestReset(t *testing.T) { shortens(t, reset(), 1, 0, 3, nil) }

// TestOfNothing: 9.4, an empty log, whatever is cut off: the disk isn't asked for anything.
func TestOfNothing(t *testing.T) {
	calls := []call{reset(), add()}
	for _, index := range []uint64{0, 1, 2, 50, mostNumber, mostNumber + 1, math.MaxUint64} {
		calls = append(calls, cut(index), drop(index))
	}
	for _, c := range calls {
		d, l := begun(t, leastLimit)
		asks(t, "9.4: an empty log", l, c, api.OK)
		holds(t, "9.4: an empty log", l, nil)
		asks(t, "9.4: then the first", l, add(none(1, 3)), api.OK)
		asks(t, "9.4: then nothing", l, reset(), api.OK)
		asks(t, "9.4: an empty log again", l, c, api.OK)
		holds(t, "9.4: an empty log again", l, nil)
		if lies(t, "9.4: an empty log", d, nil); d.Pending() != 2 {
			t.Errorf("9.4: %s(%d) of an empty log: %d operations, not 2", c.what, c.index, d.Pending())
		}
	}
}

// TestOfOne: 9.4, one segment: it may be cut, but is never dropped.
func TestOfOne(t *testing.T) {
	for _, index := range []uint64{0, 4, 5, 6, 7, 99, math.MaxUint64} {
		d, l := begun(t, mostLimit, run(2, 5, 7)...)
		asks(t, "9.4: one segment", l, drop(index), api.OK)
		holds(t, "9.4: one segment is never dropped", l, run(2, 5, 7))
		lies(t, "9.4: one segment is never dropped", d, segments([2]uint64{5, 7}))
		asks(t, "9.4: one segment", l, cut(index), api.OK)
		last := min(max(index, 5), 8) - 1
		holds(t, "9.4: one segment, cut", l, run(2, 5, last))
		if index == math.MaxUint64 && d.Pending() != 3 {
			t.Errorf("9.4: one segment: %d operations, not 3", d.Pending())
		}
	}
}

// TestOfMost: 9.4, about the last number.
func TestOfMost(t *testing.T) {
	const n = uint64(mostNumber)
	some := row(sized(2, n-3, 40), sized(2, n-2, 40), sized(2, n-1, 33), sized(2, n, 31))
	for _, c := range []struct {
		call
		want []api.Entry
	}{
		{cut(n), some[:3]}, {cut(n - 1), some[:2]}, {cut(n - 2), some[:1]}, {cut(n - 3), nil}, {cut(n + 1), some}, {cut(math.MaxUint64), some},
		{drop(n - 4), some}, {drop(n - 3), some[1:]}, {drop(n - 2), some[2:]}, {drop(n - 1), some[2:]}, {drop(n), some[2:]}, {drop(n + 1), some[2:]}, {drop(math.MaxUint64), some[2:]},
	} {
		d, l := begun(t, leastLimit, some...)
		lies(t, "9.4: the last number", d, named(map[uint64]string{n - 3: file(some[0]), n - 2: file(some[1]), n - 1: file(some[2:]...)}))
		what := fmt.Sprintf("9.4: about the last number, %s(%x)", c.what, c.index)
		asks(t, what, l, c.call, api.OK)
		holds(t, what, l, c.want)
		holds(t, what+", opened anew", opened(t, d, leastLimit), c.want)
	}
}

// TestTermsBehindCut: 9.4, behind a Cut it is the term of the last entry that is left
// that counts, wherever that lies.
func TestTermsBehindCut(t *testing.T) {
	var some []api.Entry
	for i := range uint64(9) {
		some = append(some, sized(10+i, 1+i, 30))
	}
	for index := uint64(2); index <= 9; index++ {
		for _, anew := range []bool{false, true} {
			d, l := begun(t, leastLimit, some...)
			asks(t, "9.4: to be cut", l, cut(index), api.OK)
			if anew {
				l = opened(t, d, leastLimit)
			}
			last := some[index-2]
			asks(t, "9.4: a term below", l, add(none(last.Term-1, index)), api.ErrArg)
			asks(t, "9.4: the same term", l, add(none(last.Term, index)), api.OK)
			holds(t, "9.4: the same term", l, append(some[:index-1:index-1], none(last.Term, index)))
		}
	}
}
