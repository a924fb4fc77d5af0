package seg_test

import (
	"testing"

	"bursar/api"
)

// TestBreak: 9.3, a range over All that breaks off is told nothing more.
func TestBreak(t *testing.T) {
	some := run(2, 5, 11)
	_, l := begun(t, leastLimit, some...)
	all := l.All()
	for n := 1; n <= len(some); n++ {
		if got := firsts(l, n); !same(got, some[:n]) {
			t.Errorf("9.3: the first %d: %s", n, short(got))
		}
		calls := 0
		all(func(api.Entry) bool { calls++; return calls < n })
		if calls != n {
			t.Errorf("9.3: broken off at %d: %d calls", n, calls)
		}
	}
	holds(t, "9.3: after those", l, some)
}

// TestWithin: 9.3, ranges over the same iterator within one another, each tells all of it.
func TestWithin(t *testing.T) {
	_, l := begun(t, leastLimit, run(2, 1, 4)...)
	all := l.All()
	got := uint64(0)
	for x := range all {
		for y := range all {
			if x.Index == 3 && y.Index == 2 {
				break
			}
			got = got*10 + y.Index
		}
	}
	if got != 1234123411234 {
		t.Errorf("9.3: within: %d", got)
	}
}

// TestWhenItBegins: 9.3, a range tells the entries as they are when it begins, neither
// as they are when All is called, nor as its body makes them.
func TestWhenItBegins(t *testing.T) {
	some := run(2, 50, 54)
	for _, c := range []call{add(run(3, 55, 60)...), cut(53), cut(52), cut(0), drop(51), drop(99), reset()} {
		for at := range some {
			_, l := begun(t, leastLimit, some...)
			before := l.All()
			var got []api.Entry
			for x := range before {
				if len(got) == at {
					asks(t, "9.3: in the midst", l, c, api.OK)
				}
				got = append(got, x)
			}
			if !same(got, some) {
				t.Errorf("9.3: %s(%d) in the midst: %s, not %s", c.what, c.index, short(got), short(some))
			}
			got = nil
			for x := range before {
				got = append(got, x)
			}
			if want := l.List(); !same(got, want) {
				t.Errorf("9.3: %s(%d), the next range: %s, not %s", c.what, c.index, short(got), short(want))
			}
		}
	}
	_, l := begun(t, leastLimit)
	all := l.All()
	asks(t, "9.3: ahead of the range", l, add(some...), api.OK)
	var got []api.Entry
	for x := range all {
		asks(t, "9.3: each time", l, reset(), api.OK)
		asks(t, "9.3: each time", l, add(none(1, x.Index)), api.OK)
		got = append(got, x)
	}
	if !same(got, some) {
		t.Errorf("9.3: all is replaced in the midst: %s", short(got))
	}
	holds(t, "9.3: all was replaced", l, row(none(1, 54)))
}

// TestDiskInTheMidst: 9.3, the disk goes down, or crashes, while a range goes on.
func TestDiskInTheMidst(t *testing.T) {
	some := run(2, 50, 54)
	for _, keep := range []int{0, 2} {
		d, l := begun(t, leastLimit, some...)
		var got []api.Entry
		for x := range l.All() {
			if len(got) == 1 {
				d.Fuse(0)
				d.Sync()
			}
			if len(got) == 3 {
				d.Crash(keep, 0)
			}
			got = append(got, x)
		}
		if !same(got, some) {
			t.Errorf("9.3: a crash in the midst: %s", short(got))
		}
	}
}

// TestNoYield: R1, an iterator that is given nil ends, and can be ranged over after that.
func TestNoYield(t *testing.T) {
	for _, some := range [][]api.Entry{nil, run(2, 5, 9)} {
		_, l := begun(t, leastLimit, some...)
		l.All()(nil)
		holds(t, "R1: after no yield", l, some)
	}
}
