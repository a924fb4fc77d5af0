package seg_test

import (
	"fmt"
	"testing"

	"bursar/api"
	"bursar/disk"
	"bursar/seg"
)

// states answers how a log lies after some calls and a Sync, and then after each
// operation of others.
func states(limit int, synced, pending []call) []parts {
	p := []parts{after(limit, synced...)}
	for _, c := range pending {
		p = append(p, c.steps(p[len(p)-1], limit)...)
	}
	return p
}

// played answers a new Disk, and its Log, of which some calls were asked, synced, and
// others behind them.
func played(t *testing.T, limit int, synced, pending []call) (*disk.Disk, *seg.Log) {
	t.Helper()
	d, l := begun(t, limit)
	for _, c := range synced {
		asks(t, "9.6: ahead of a crash", l, c, api.OK)
	}
	d.Sync()
	for _, c := range pending {
		asks(t, "9.6: ahead of a crash", l, c, api.OK)
	}
	return d, l
}

// crashes fails where a log that is opened after any crash that may come after some
// calls holds other than what was left whole.
func crashes(t *testing.T, limit int, synced, pending []call) {
	t.Helper()
	p := states(limit, synced, pending)
	for keep := range p {
		size := 1
		if keep+1 < len(p) {
			_, size = lasting(p[keep].files(), p[keep+1].files(), 0)
		}
		for torn := range max(size, 1) {
			what := fmt.Sprintf("9.6: %s, synced, %s, Crash(%d, %d)", short(synced), short(pending), keep, torn)
			d, l := played(t, limit, synced, pending)
			holds(t, "9.6: ahead of a crash", l, p[len(p)-1].entries())
			if d.Pending() != len(p)-1 {
				t.Fatalf("%s: %d operations, not %d", what, d.Pending(), len(p)-1)
			}
			d.Crash(keep, torn)
			lies(t, what, d, leftBy(p, keep, torn))
			holds(t, what, opened(t, d, limit), p[keep].entries())
			lies(t, what, d, p[keep].files())
			// What opening it put right may be lost again.
			d.Crash(0, 0)
			lies(t, what+", and another", d, leftBy(p, keep, torn))
			holds(t, what+", and another", opened(t, d, limit), p[keep].entries())
		}
	}
}

// leftBy answers what a crash leaves that comes in the midst of the operation behind p[keep].
func leftBy(p []parts, keep, torn int) map[string]string {
	m := p[keep].files()
	if keep+1 < len(p) {
		m, _ = lasting(m, p[keep+1].files(), torn)
	}
	return m
}

// TestCrash: 9.6, after each crash in the midst of some calls the log holds what was
// synced, and of the rest a part without a gap.
func TestCrash(t *testing.T) {
	five := []call{add(run(2, 50, 54)...)}
	for _, c := range []struct{ synced, pending []call }{
		{nil, nil},
		{nil, five},
		{five, nil},
		{five, []call{add(run(2, 55, 58)...)}},
		{five, []call{add(none(2, 55)), add(none(2, 56)), add(conf(3, 57, 6), command(4, 58, "ab"))}},
		{five, []call{cut(54)}},
		{five, []call{cut(53)}},
		{five, []call{cut(51), add(run(3, 51, 53)...)}},
		{five, []call{cut(52), add(run(3, 52, 55)...)}},
		{five, []call{cut(53), add(run(3, 53, 55)...), cut(54), add(run(4, 54, 56)...)}},
		{five, []call{cut(0), add(run(1, 3, 6)...)}},
		{five, []call{cut(49), add(run(1, 60, 62)...)}},
		{five, []call{drop(51)}},
		{five, []call{drop(99), add(run(2, 55, 57)...)}},
		{five, []call{add(run(2, 55, 57)...), drop(53), cut(56), add(none(3, 56)), drop(99)}},
		{five, []call{reset()}},
		{five, []call{reset(), add(run(1, 50, 53)...)}},
		{five, []call{reset(), add(run(1, 51, 53)...), reset(), add(run(1, 1, 1)...)}},
		{nil, []call{add(run(1, 1, 3)...), reset(), add(run(1, 2, 4)...), cut(3), drop(2), add(none(1, 3))}},
		{[]call{add(run(2, 50, 60)...), cut(58), drop(51)}, []call{drop(53), add(run(3, 58, 59)...), cut(57)}},
	} {
		crashes(t, leastLimit, c.synced, c.pending)
		crashes(t, 100, c.synced, c.pending)
	}
}

// TestCrashes: 9.6, one crash after the other, each in the midst of an Append: what is
// left of the entries is always a beginning of them.
func TestCrashes(t *testing.T) {
	for torn := range 31 {
		d := blank(t)
		last := uint64(0)
		for i := range 12 {
			l := opened(t, d, leastLimit)
			holds(t, "9.6: crash after crash", l, run(2, 1, last))
			asks(t, "9.6: crash after crash", l, add(run(2, last+1, last+3)...), api.OK)
			if i%3 == 0 {
				d.Sync()
				last += 3
				continue
			}
			// What opening the log put right is the first that is pending, if anything was.
			mended := d.Pending() - 3
			d.Crash(mended+i%3, torn)
			last += uint64(i % 3)
		}
	}
}
