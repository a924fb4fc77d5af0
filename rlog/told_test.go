package rlog_test

import (
	"math"
	"testing"

	"bursar/api"
)

// TestTerm: 15.1, Term of what there is, and of what there is not.
func TestTerm(t *testing.T) {
	l := made(t, base, run(5, 3, 3, 7)...)
	for index, want := range map[uint64]uint64{4: 2, 5: 3, 6: 3, 7: 7} {
		if term, ok := l.Term(index); term != want || !ok {
			t.Errorf("15.1: Term(%d): %d %t, not %d", index, term, ok, want)
		}
	}
	for _, index := range []uint64{0, 1, 3, 8, 9, 4 + 1<<32, 5 + 1<<32, mostNumber, 1 << 63, math.MaxUint64 - 1, math.MaxUint64} {
		if term, ok := l.Term(index); term != 0 || ok {
			t.Errorf("15.1: Term(%d): %d %t", index, term, ok)
		}
	}
}

// TestTermOfBase: 15.1, Term where there are no entries, and of the zero base.
func TestTermOfBase(t *testing.T) {
	l := made(t, base)
	if term, ok := l.Term(4); term != 2 || !ok {
		t.Errorf("15.1: Term(4): %d %t", term, ok)
	}
	zero := made(t, api.Base{})
	if term, ok := zero.Term(0); term != 0 || !ok {
		t.Errorf("15.1: Term(0): %d %t", term, ok)
	}
	for _, index := range []uint64{1, 2, math.MaxUint64} {
		if term, ok := zero.Term(index); term != 0 || ok {
			t.Errorf("15.1: Term(%d) of nothing: %d %t", index, term, ok)
		}
	}
	zero.Append(none(9, 1))
	if term, ok := zero.Term(0); term != 0 || !ok {
		t.Errorf("15.1: Term(0) ahead of an entry: %d %t", term, ok)
	}
	if l.Last() != 4 || l.Len() != 0 || zero.Last() != 1 || zero.Len() != 1 {
		t.Errorf("15.1: Last %d and %d", l.Last(), zero.Last())
	}
}

// TestEntries: 15.1, from any index on, and no more than are asked for.
func TestEntries(t *testing.T) {
	some := row(command(2, 5, "ab"), conf(2, 6, 6), none(3, 7), command(3, 8, "c"))
	l := made(t, base, some...)
	for k := range some {
		from, there := uint64(5+k), some[k:]
		for most := range 7 {
			if got := l.Entries(from, most); !same(got, there[:min(most, len(there))]) {
				t.Errorf("15.1: Entries(%d, %d): %v", from, most, got)
			}
		}
		for _, most := range []int{1 << 32, math.MaxInt - 1, math.MaxInt} {
			if got := l.Entries(from, most); !same(got, there) {
				t.Errorf("15.1: Entries(%d, %d): %v", from, most, got)
			}
		}
		for _, most := range []int{0, -1, -2, math.MinInt} {
			if got := l.Entries(from, most); len(got) != 0 {
				t.Errorf("15.1: Entries(%d, %d): %v", from, most, got)
			}
		}
	}
}

// TestEntriesOutside: 15.1, from an index on that the log does not have.
func TestEntriesOutside(t *testing.T) {
	for _, some := range [][]api.Entry{nil, example()} {
		l := made(t, base, some...)
		for _, from := range []uint64{0, 1, 3, 4, 7, 8, 5 + 1<<32, mostNumber, 1 << 63, math.MaxUint64} {
			for _, most := range []int{-1, 0, 1, 2, 3, math.MaxInt} {
				if got := l.Entries(from, most); len(got) != 0 {
					t.Errorf("15.1: Entries(%d, %d): %v", from, most, got)
				}
			}
		}
	}
	zero := made(t, api.Base{}, none(1, 1))
	if got := zero.Entries(0, 9); len(got) != 0 {
		t.Errorf("15.1: Entries(0, 9): %v", got)
	}
	if got := zero.Entries(1, 9); !same(got, row(none(1, 1))) {
		t.Errorf("15.1: Entries(1, 9): %v", got)
	}
}

// TestGood: 15.2, the term of the last entry decides, and then its index.
func TestGood(t *testing.T) {
	l := made(t, base, run(5, 2, 5, 5)...)
	for _, c := range []struct {
		index, term uint64
		want        bool
	}{
		{7, 5, true}, {6, 5, false}, {8, 5, true}, {0, 5, false}, {math.MaxUint64, 5, true},
		{7, 4, false}, {6, 4, false}, {8, 4, false}, {math.MaxUint64, 4, false},
		{7, 6, true}, {6, 6, true}, {8, 6, true}, {0, 6, true}, {0, math.MaxUint64, true},
		{5, 2, false}, {4, 2, false}, {99, 0, false}, {0, 0, false},
	} {
		if got := l.Good(c.index, c.term); got != c.want {
			t.Errorf("15.2: Good(%d, %d): %t", c.index, c.term, got)
		}
	}
}

// TestGoodOfBase: 15.2, where there are no entries the base is the last.
func TestGoodOfBase(t *testing.T) {
	l, zero := made(t, base), made(t, api.Base{})
	for _, c := range []struct {
		index, term uint64
		want, all   bool
	}{
		{4, 2, true, true}, {3, 2, false, true}, {5, 2, true, true}, {5, 1, false, true}, {3, 3, true, true},
		{0, 0, false, true}, {0, 1, false, true}, {9, 0, false, true}, {0, 3, true, true},
	} {
		if got := l.Good(c.index, c.term); got != c.want {
			t.Errorf("15.2: Good(%d, %d): %t", c.index, c.term, got)
		}
		if got := zero.Good(c.index, c.term); got != c.all {
			t.Errorf("15.2: Good(%d, %d) of nothing: %t", c.index, c.term, got)
		}
	}
}

// TestAppend: 15.2, entries that follow the last, one by one and several at once.
func TestAppend(t *testing.T) {
	for _, b := range []api.Base{{}, base, {Index: mostNumber - 40, Term: 2, Conf: 2}} {
		l, m := made(t, b), &model{base: b}
		for n, terms := range [][]uint64{{2}, {}, {2, 2}, {3, 3, 4}, {}, {9}, {9, 9, 9, 12}, {mostNumber, mostNumber}} {
			some := run(m.last()+1, terms...)
			if n == 2 {
				some[0], some[1] = command(2, some[0].Index, "xyz"), conf(2, some[1].Index, 30)
			}
			if e := l.Append(some...); e != api.OK || m.append(some) != api.OK {
				t.Errorf("15.2: Append(%s): %d", short(some), e)
			}
			holds(t, "15.2: after an Append", l, b, m.row...)
		}
	}
}

// TestAppendNone: 15.2, none follow always.
func TestAppendNone(t *testing.T) {
	for _, some := range [][]api.Entry{nil, example()} {
		l := made(t, base, some...)
		if e := l.Append(); e != api.OK {
			t.Errorf("15.2: Append of none: %d", e)
		}
		if e := l.Append([]api.Entry{}...); e != api.OK {
			t.Errorf("15.2: Append of none: %d", e)
		}
		holds(t, "15.2: Append of none", l, base, some...)
	}
}

// TestAppendRefused: 15.2, entries that do not follow; nothing is changed by them.
func TestAppendRefused(t *testing.T) {
	own := run(5, 2, 3)
	cases := map[string][]api.Entry{
		"one that is there":       run(6, 3),
		"all that are there":      own,
		"one left out":            run(8, 3),
		"one left out in between": row(none(3, 7), none(3, 9)),
		"one twice":               row(none(3, 7), none(3, 7)),
		"index 0":                 run(0, 3),
		"the base's index":        run(4, 3),
		"a great index":           run(mostNumber+1, 3),
		"a lower term":            run(7, 2),
		"terms that fall":         run(7, 5, 4),
		"a lower term behind":     run(7, 3, 3, 2),
		"a term that is 0":        run(7, 0),
		"too great a term":        run(7, 3, mostNumber+1),
	}
	l := made(t, base, own...)
	for what, some := range cases {
		if e := l.Append(some...); e != api.ErrArg {
			t.Errorf("15.2: Append, %s: %d", what, e)
		}
		holds(t, "15.2: a refused Append, "+what, l, base, own...)
	}
	for _, x := range wrong(3, 7) {
		later := x
		later.Index = 8
		if e, f := l.Append(x), l.Append(none(3, 7), later); e != api.ErrArg || f != api.ErrArg {
			t.Errorf("15.2: Append(%v): %d %d", x, e, f)
		}
	}
	holds(t, "15.2: after entries that are not valid", l, base, own...)
}

// TestAppendAtTheEnd: 15.2, behind the greatest index none follow.
func TestAppendAtTheEnd(t *testing.T) {
	b := api.Base{Index: mostNumber - 1, Term: 2, Conf: 14}
	l := made(t, b)
	if e := l.Append(run(mostNumber, 2, 2)...); e != api.ErrArg {
		t.Errorf("15.2: Append beyond MaxNumber: %d", e)
	}
	holds(t, "15.2: Append beyond MaxNumber", l, b)
	if e, f := l.Append(none(2, mostNumber)), l.Append(none(2, mostNumber+1)); e != api.OK || f != api.ErrArg {
		t.Errorf("15.2: Append at MaxNumber, and behind it: %d %d", e, f)
	}
	holds(t, "15.2: Append at MaxNumber", l, b, none(2, mostNumber))
}
