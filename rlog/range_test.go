package rlog_test

import (
	"testing"

	"bursar/api"
	"bursar/rlog"
)

// changes are things that can be done to a log with the base and the entries of many.
func changes() map[string]func(l *rlog.Log) {
	return map[string]func(l *rlog.Log){
		"Append":                       func(l *rlog.Log) { l.Append(none(l.Last(), l.Last()+1)) },
		"Put of another first":         func(l *rlog.Log) { l.Put(4, 2, run(5, 9, 9)) },
		"Put of another last":          func(l *rlog.Log) { l.Put(9, 5, run(10, 6)) },
		"Compact of one":               func(l *rlog.Log) { l.Compact(5) },
		"Compact of all":               func(l *rlog.Log) { l.Compact(10) },
		"Restore that keeps":           func(l *rlog.Log) { l.Restore(api.Base{Index: 7, Term: 3, Conf: 2}) },
		"Restore that empties":         func(l *rlog.Log) { l.Restore(api.Base{Index: 99, Term: 9, Conf: 2}) },
		"Restore that goes back":       func(l *rlog.Log) { l.Restore(api.Base{Index: 1, Term: 1, Conf: 2}) },
		"Compact, and then as many in": func(l *rlog.Log) { l.Compact(10); l.Append(run(11, 6, 6, 6, 6, 6, 6)...) },
	}
}

// TestAll: 15.1, the entries in their order, each with its index, as often as it is ranged.
func TestAll(t *testing.T) {
	l := made(t, base, many()...)
	all := l.All()
	for range 3 {
		k := 0
		for index, x := range all {
			if k >= len(many()) || index != uint64(5+k) || !same(row(x), many()[k:k+1]) {
				t.Fatalf("15.1: All tells %d %v at %d", index, x, k)
			}
			k++
		}
		if k != len(many()) {
			t.Errorf("15.1: All tells %d entries", k)
		}
	}
	for range made(t, base).All() {
		t.Error("15.1: All of no entries tells one")
	}
	for range made(t, api.Base{}).All() {
		t.Error("15.1: All of nothing tells one")
	}
}

// TestAllWhileChanged: 15.1, what is told is what was there as the ranging began, whatever
// is done to the log meanwhile; the next ranging tells what is there then.
func TestAllWhileChanged(t *testing.T) {
	for what, change := range changes() {
		for when := range many() {
			l := made(t, base, many()...)
			all, k := l.All(), 0
			for index, x := range all {
				if k >= len(many()) || index != uint64(5+k) || !same(row(x), many()[k:k+1]) {
					t.Fatalf("15.1: %s at %d: All tells %d %v at %d", what, when, index, x, k)
				}
				if k == when {
					change(l)
				}
				k++
			}
			if k != len(many()) {
				t.Errorf("15.1: %s at %d: All tells %d entries", what, when, k)
			}
			other := made(t, base, many()...)
			change(other)
			if got, want := told(l), told(other); !same(got, want) || same(got, many()) {
				t.Errorf("15.1: after %s at %d: All tells %v, not %v", what, when, got, want)
			}
			holds(t, "after a change in a range", l, other.Base(), told(other)...)
		}
	}
}

// TestAllBegins: 15.1, what is told is what is there when the ranging begins, not when All
// was called.
func TestAllBegins(t *testing.T) {
	for what, change := range changes() {
		l := made(t, base, many()...)
		all := l.All()
		change(l)
		var got []api.Entry
		for _, x := range all {
			got = append(got, x)
		}
		if want := l.Entries(l.Base().Index+1, 99); !same(got, want) {
			t.Errorf("15.1: %s behind All: %v, not %v", what, got, want)
		}
	}
}

// TestAllBreaksOff: 15.1, a range that breaks off is told no more, and the next one begins
// anew.
func TestAllBreaksOff(t *testing.T) {
	l := made(t, base, many()...)
	all := l.All()
	for most := 1; most <= len(many())+1; most++ {
		n := 0
		for range all {
			if n++; n == most {
				break
			}
		}
		if n != min(most, len(many())) {
			t.Errorf("15.1: %d entries were told, not %d", n, most)
		}
		calls := 0
		all(func(uint64, api.Entry) bool { calls++; return calls < most })
		if calls != min(most, len(many())) {
			t.Errorf("15.1: %d calls behind a false, not %d", calls, most)
		}
	}
	holds(t, "after ranges that broke off", l, base, many()...)
}

// TestAllWithin: 15.1, one range within another, of the same log and of the same iterator.
func TestAllWithin(t *testing.T) {
	l := made(t, base, many()...)
	all, n := l.All(), 0
	for index := range all {
		for other, x := range all {
			if other != x.Index {
				t.Errorf("15.1: within %d: %d %v", index, other, x)
			}
			n++
		}
	}
	if want := len(many()) * len(many()); n != want {
		t.Errorf("15.1: %d entries were told, not %d", n, want)
	}
}

// TestNoYield: R1, an iterator that is given no function does nothing.
func TestNoYield(t *testing.T) {
	l := made(t, base, many()...)
	l.All()(nil)
	holds(t, "R1: no function", l, base, many()...)
}
