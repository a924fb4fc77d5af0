package rlog_test

import (
	"math"
	"testing"

	"bursar/api"
)

// TestBaseExample: 15.4, the chapter's examples.
func TestBaseExample(t *testing.T) {
	l := made(t, base, example()...)
	if e := l.Compact(5); e != api.OK {
		t.Errorf("15.4: Compact(5): %d", e)
	}
	five := api.Base{Index: 5, Term: 2, Conf: 14}
	holds(t, "15.4: after Compact(5)", l, five, none(2, 6))
	if e := l.Compact(4); e != api.ErrArg {
		t.Errorf("15.4: Compact(4): %d", e)
	}
	holds(t, "15.4: after Compact(4)", l, five, none(2, 6))
	nine := api.Base{Index: 9, Term: 3, Conf: 6}
	if l.Restore(nine) {
		t.Error("15.4: Restore of 9 keeps entries")
	}
	holds(t, "15.4: after a Restore", l, nine)
}

// many answers entries of all kinds behind the chapter's base.
func many() []api.Entry {
	return row(command(2, 5, "ab"), conf(2, 6, 6), none(3, 7), command(3, 8, "c"), conf(5, 9, 30), none(5, 10))
}

// compacted are the bases behind a Compact at each index of these.
func compacted() []api.Base {
	return []api.Base{
		{Index: 5, Term: 2, Conf: 14}, {Index: 6, Term: 2, Conf: 6}, {Index: 7, Term: 3, Conf: 6},
		{Index: 8, Term: 3, Conf: 6}, {Index: 9, Term: 5, Conf: 30}, {Index: 10, Term: 5, Conf: 30},
	}
}

// TestCompact: 15.4, up to each index, at once and step by step; the log goes on behind it.
func TestCompact(t *testing.T) {
	slow := made(t, base, many()...)
	for k, b := range compacted() {
		l := made(t, base, many()...)
		if e, f := l.Compact(b.Index), slow.Compact(b.Index); e != api.OK || f != api.OK {
			t.Errorf("15.4: Compact(%d): %d %d", b.Index, e, f)
		}
		left := many()[k+1:]
		holds(t, "15.4: after a Compact", l, b, left...)
		holds(t, "15.4: after several", slow, b, left...)
		more := run(11, 5, 6)
		if e := l.Append(more...); e != api.OK {
			t.Errorf("15.4: Append after a Compact: %d", e)
		}
		holds(t, "15.4: Append after a Compact", l, b, append(left, more...)...)
		if from, ok := l.Put(b.Index, b.Term, run(b.Index+1, 9)); from != b.Index+1 || !ok {
			t.Errorf("15.4: Put after a Compact: %d %t", from, ok)
		}
		holds(t, "15.4: Put after a Compact", l, b, run(b.Index+1, 9)...)
		if from, ok := l.Put(b.Index-1, 2, nil); from != 0 || ok {
			t.Errorf("15.4: Put ahead of the base: %d %t", from, ok)
		}
	}
}

// TestCompactRefused: 15.4, no index of an entry: nothing is changed.
func TestCompactRefused(t *testing.T) {
	outside := []uint64{0, 1, 3, 4, 11, 12, 5 + 1<<32, mostNumber, mostNumber + 1, 1 << 63, math.MaxUint64}
	l, blank, zero := made(t, base, many()...), made(t, base), made(t, api.Base{})
	for _, index := range outside {
		if e, f, g := l.Compact(index), blank.Compact(index), zero.Compact(index); e != api.ErrArg || f != api.ErrArg || g != api.ErrArg {
			t.Errorf("15.4: Compact(%d): %d %d %d", index, e, f, g)
		}
	}
	holds(t, "15.4: a refused Compact", l, base, many()...)
	holds(t, "15.4: a refused Compact of no entries", blank, base)
	holds(t, "15.4: a refused Compact of nothing", zero, api.Base{})
	l.Compact(7)
	for _, index := range []uint64{0, 4, 5, 6, 7, 11} {
		if e := l.Compact(index); e != api.ErrArg {
			t.Errorf("15.4: Compact(%d) behind Compact(7): %d", index, e)
		}
	}
	holds(t, "15.4: a refused Compact behind another", l, api.Base{Index: 7, Term: 3, Conf: 6}, many()[3:]...)
}

// TestCompactOfZero: 15.4, behind the zero base; where no EntryConf is up to the index,
// the set of the base is that of the zero base, as ConfAt tells it.
func TestCompactOfZero(t *testing.T) {
	some := row(none(1, 1), none(2, 2), conf(2, 3, 6), none(2, 4))
	for k, b := range []api.Base{{Index: 1, Term: 1}, {Index: 2, Term: 2}, {Index: 3, Term: 2, Conf: 6}, {Index: 4, Term: 2, Conf: 6}} {
		l := made(t, api.Base{}, some...)
		if e := l.Compact(b.Index); e != api.OK {
			t.Errorf("15.4: Compact(%d): %d", b.Index, e)
		}
		holds(t, "15.4: Compact behind the zero base", l, b, some[k+1:]...)
		l.Append(run(5, 3)...)
		holds(t, "15.4: Append behind it", l, b, append(some[k+1:], none(3, 5))...)
	}
}

// TestRestoreKeeps: 15.4, a base that the log has: what is behind it remains, and its set
// is that of the snapshot.
func TestRestoreKeeps(t *testing.T) {
	bases := append([]api.Base{base}, compacted()...)
	for k, b := range bases {
		for _, set := range []int{b.Conf, 2, 254} {
			b.Conf = set
			l := made(t, base, many()...)
			if !l.Restore(b) {
				t.Errorf("15.4: Restore(%v) keeps nothing", b)
			}
			holds(t, "15.4: a Restore that keeps", l, b, many()[k:]...)
			if e := l.Append(none(6, 11)); e != api.OK {
				t.Errorf("15.4: Append after Restore(%v): %d", b, e)
			}
			holds(t, "15.4: Append after it", l, b, append(many()[k:], none(6, 11))...)
		}
	}
}

// TestRestoreEmpties: 15.4, a base that the log does not have: all entries go.
func TestRestoreEmpties(t *testing.T) {
	for _, b := range []api.Base{
		{Index: 4, Term: 1, Conf: 14}, {Index: 4, Term: 3, Conf: 14},
		{Index: 5, Term: 1, Conf: 6}, {Index: 5, Term: 3, Conf: 6}, {Index: 7, Term: 2, Conf: 6}, {Index: 7, Term: 5, Conf: 6},
		{Index: 10, Term: 4, Conf: 6}, {Index: 10, Term: 6, Conf: 6}, {Index: 11, Term: 5, Conf: 6}, {Index: 12, Term: 5, Conf: 2},
		{Index: 3, Term: 2, Conf: 14}, {Index: 1, Term: 1, Conf: 2}, {Index: 1, Term: mostNumber, Conf: 254},
		{Index: 5 + 1<<32, Term: 2, Conf: 14}, {Index: mostNumber, Term: 5, Conf: 30}, {Index: mostNumber, Term: mostNumber, Conf: 128},
	} {
		l, blank, zero := made(t, base, many()...), made(t, base), made(t, api.Base{}, none(mostNumber, 1))
		kept := []bool{l.Restore(b), blank.Restore(b), zero.Restore(b)}
		if kept[0] || kept[1] || kept[2] != (b.Index == 1 && b.Term == mostNumber) {
			t.Errorf("15.4: Restore(%v): %v", b, kept)
		}
		holds(t, "15.4: a Restore that empties", l, b)
		holds(t, "15.4: a Restore of no entries", blank, b)
		holds(t, "15.4: a Restore behind the zero base", zero, b)
		if b.Index == mostNumber {
			continue
		}
		next := command(b.Term, b.Index+1, "x")
		if e := l.Append(next); e != api.OK {
			t.Errorf("15.4: Append after Restore(%v): %d", b, e)
		}
		holds(t, "15.4: Append after it", l, b, next)
	}
}

// TestRestoreRefused: 15.4, the zero base, and bases that are not right, also where the
// log has their index and term: nothing is changed.
func TestRestoreRefused(t *testing.T) {
	l, blank, zero := made(t, base, many()...), made(t, base), made(t, api.Base{}, run(1, 1, 1)...)
	for _, index := range []uint64{0, 4, 5, 9, 11, mostNumber, mostNumber + 1, math.MaxUint64} {
		for _, term := range []uint64{0, 1, 2, 5, mostNumber + 1, math.MaxUint64} {
			for _, set := range []int{0, 14, 15, 1, 256, -2, math.MinInt, math.MaxInt} {
				b := api.Base{Index: index, Term: term, Conf: set}
				if b != (api.Base{}) && mayBe(b) {
					continue
				}
				if l.Restore(b) || blank.Restore(b) || zero.Restore(b) {
					t.Errorf("15.4: Restore(%v) is done", b)
				}
			}
		}
	}
	holds(t, "15.4: a refused Restore", l, base, many()...)
	holds(t, "15.4: a refused Restore of no entries", blank, base)
	holds(t, "15.4: a refused Restore behind the zero base", zero, api.Base{}, run(1, 1, 1)...)
}
