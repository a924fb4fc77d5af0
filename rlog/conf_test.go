package rlog_test

import (
	"math"
	"testing"

	"bursar/api"
	"bursar/rlog"
)

// confs fails where Conf tells another set or index.
func confs(t *testing.T, what string, l *rlog.Log, set int, index uint64) {
	t.Helper()
	if s, at := l.Conf(); s != set || at != index {
		t.Errorf("15.4: %s: Conf %d %d, not %d %d", what, s, at, set, index)
	}
}

// confsAt fails where ConfAt tells other sets of the indexes from 0 on, or tells one of
// any index behind them that is not the last.
func confsAt(t *testing.T, what string, l *rlog.Log, sets ...int) {
	t.Helper()
	for index, set := range sets {
		if got := l.ConfAt(uint64(index)); got != set {
			t.Errorf("15.4: %s: ConfAt(%d): %d, not %d", what, index, got, set)
		}
	}
	last := sets[len(sets)-1]
	for _, index := range []uint64{uint64(len(sets)), uint64(len(sets)) + 1, 4 + 1<<32, mostNumber, 1 << 63, math.MaxUint64} {
		if got := l.ConfAt(index); got != last {
			t.Errorf("15.4: %s: ConfAt(%d): %d, not %d", what, index, got, last)
		}
	}
}

// TestConfOfBase: 15.4, without an EntryConf the base tells.
func TestConfOfBase(t *testing.T) {
	for _, some := range [][]api.Entry{nil, example(), row(command(2, 5, "a"), none(3, 6))} {
		l := made(t, base, some...)
		confs(t, "no EntryConf", l, 14, 4)
		confsAt(t, "no EntryConf", l, 14, 14, 14, 14, 14, 14, 14, 14)
	}
	for _, some := range [][]api.Entry{nil, run(1, 1, 1)} {
		zero := made(t, api.Base{}, some...)
		confs(t, "the zero base", zero, 0, 0)
		confsAt(t, "the zero base", zero, 0, 0, 0, 0)
	}
}

// TestConf: 15.4, one EntryConf, at each place, and several.
func TestConf(t *testing.T) {
	l := made(t, base, conf(2, 5, 6))
	confs(t, "the only one", l, 6, 5)
	confsAt(t, "the only one", l, 14, 14, 14, 14, 14, 6)
	l = made(t, base, none(2, 5), conf(2, 6, 6), none(2, 7))
	confs(t, "in the midst", l, 6, 6)
	confsAt(t, "in the midst", l, 14, 14, 14, 14, 14, 14, 6, 6)
	l = made(t, base, conf(2, 5, 6), command(2, 6, "a"), conf(3, 7, 30), conf(3, 8, 2), none(4, 9))
	confs(t, "several", l, 2, 8)
	confsAt(t, "several", l, 14, 14, 14, 14, 14, 6, 6, 30, 2, 2)
	l = made(t, base, conf(2, 5, 14), conf(2, 6, 14))
	confs(t, "always the same set", l, 14, 6)
	zero := made(t, api.Base{}, conf(1, 1, 254), conf(1, 2, 128))
	confs(t, "the zero base", zero, 128, 2)
	confsAt(t, "the zero base", zero, 0, 254, 128)
}

// TestConfOfChanges: 15.4, an Append tells a new one, and a Put takes it away again, or
// leaves it where it was there.
func TestConfOfChanges(t *testing.T) {
	l := made(t, base, example()...)
	l.Append(conf(2, 7, 6), none(2, 8), conf(3, 9, 30), none(3, 10))
	confs(t, "after an Append", l, 30, 9)
	confsAt(t, "after an Append", l, 14, 14, 14, 14, 14, 14, 14, 6, 6, 30, 30)
	l.Put(8, 2, row(conf(3, 9, 2)))
	confs(t, "after a Put of what was there", l, 30, 9)
	l.Put(8, 2, row(none(4, 9), conf(4, 10, 62)))
	confs(t, "after a Put with another", l, 62, 10)
	confsAt(t, "after a Put with another", l, 14, 14, 14, 14, 14, 14, 14, 6, 6, 6, 62)
	l.Put(9, 4, run(10, 5))
	confs(t, "after a Put that takes it away", l, 6, 7)
	confsAt(t, "after a Put that takes it away", l, 14, 14, 14, 14, 14, 14, 14, 6)
	l.Put(4, 2, run(5, 2, 2, 6))
	confs(t, "after a Put that takes all away", l, 14, 4)
	confsAt(t, "after a Put that takes all away", l, 14, 14)
	l.Put(6, 2, row(conf(7, 7, 126)))
	confs(t, "after a Put", l, 126, 7)
	l.Append(conf(7, 9, 2))
	l.Put(7, 7, row(conf(6, 8, 2)))
	l.Put(6, 7, row(conf(7, 7, 2)))
	confs(t, "after what is refused", l, 126, 7)
}

// TestConfOfBases: 15.4, what goes up to a base that moves, the base tells.
func TestConfOfBases(t *testing.T) {
	some := row(none(2, 5), conf(2, 6, 6), none(2, 7), conf(3, 8, 30), none(3, 9))
	for index, want := range map[uint64]int{5: 14, 6: 6, 7: 6, 8: 30, 9: 30} {
		l := made(t, base, some...)
		if e := l.Compact(index); e != api.OK {
			t.Errorf("15.4: Compact(%d): %d", index, e)
		}
		confs(t, "after a Compact", l, 30, max(index, 8))
		for k := range index + 1 {
			if got := l.ConfAt(k); got != want {
				t.Errorf("15.4: ConfAt(%d) after Compact(%d): %d, not %d", k, index, got, want)
			}
		}
		if l.ConfAt(8) != 30 || l.ConfAt(9) != 30 || l.ConfAt(math.MaxUint64) != 30 {
			t.Errorf("15.4: ConfAt(8) after Compact(%d): %d", index, l.ConfAt(8))
		}
	}
	l := made(t, base, some...)
	l.Restore(api.Base{Index: 7, Term: 2, Conf: 62})
	confs(t, "after a Restore that keeps", l, 30, 8)
	confsAt(t, "after a Restore that keeps", l, 62, 62, 62, 62, 62, 62, 62, 62, 30)
	l.Restore(api.Base{Index: 8, Term: 3, Conf: 126})
	confs(t, "after a Restore at it", l, 126, 8)
	l.Append(conf(3, 10, 2))
	l.Restore(api.Base{Index: 10, Term: 4, Conf: 254})
	confs(t, "after a Restore that does not keep", l, 254, 10)
	confsAt(t, "after a Restore that does not keep", l, 254)
}
