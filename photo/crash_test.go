package photo_test

import (
	"fmt"
	"slices"
	"testing"

	"bursar/api"
	"bursar/disk"
)

// may fails where Open of d would answer other than what lay in the files m, which were
// synced last, or one of some that were saved after it.
func may(t *testing.T, what string, left, m files, some []api.Snap) {
	t.Helper()
	s, ok := read(left[old])
	last, also := read(m[old])
	if ok == also && same(s, last) {
		return
	}
	if !slices.ContainsFunc(some, func(x api.Snap) bool { return ok && same(s, x) }) {
		t.Errorf("11.3: %s: %s %v was neither synced nor saved", what, short(s), ok)
	}
}

// crashes fails where Open, after any crash that may come while some snapshots are saved
// to a disk with the files m, answers other than what was left whole, or leaves other
// files; or where another crash, in the midst of what Open did, changes what it answers.
func crashes(t *testing.T, m files, some []api.Snap) {
	t.Helper()
	p := saved(m, some)
	for keep := range len(p.done) + 1 {
		for torn := range p.torn(keep) {
			what := fmt.Sprintf("%d saved behind files of %d and %d bytes, Crash(%d, %d)", len(some), len(m[old]), len(m[fresh]), keep, torn)
			d := synced(t, m)
			savesAll(t, what, d, some)
			waits(t, what, d, len(p.done))
			d.Crash(keep, torn)
			left := p.crashed(keep, torn)
			lies(t, what, d, left)
			may(t, what, left, m, some)
			openings(t, what, d, left)
			if t.Failed() {
				return
			}
		}
	}
}

// openings fails where Open of d, on which left lies, answers other than is told there,
// or does other than the chapter says; or where it does so after it was broken off by a
// crash.
func openings(t *testing.T, what string, d *disk.Disk, left files) {
	t.Helper()
	p := past{left, left.opening()}
	for n := range len(p.done) + 1 {
		finds(t, what, d, left)
		waits(t, what, d, len(p.done))
		lies(t, what, d, p.now())
		d.Crash(n, 0)
		lies(t, what+", and another", d, p.after(n))
		finds(t, what+", and another", d, left)
		lies(t, what+", and another", d, p.now())
		// What was done is taken back, for the next number of operations that are kept.
		d = synced(t, left)
	}
}

// TestCrash: 11.3, after each crash in the midst of some Saves, Open answers what was
// saved by the last one that is whole.
func TestCrash(t *testing.T) {
	s, x := snap(4, 2, 14, "ab"), snap(9, 3, 6, "xyz")
	for _, m := range append(places(), files{"other": "x"}, files{old: file(s) + file(s), fresh: file(x)[:5]}) {
		for _, some := range [][]api.Snap{
			nil, row(x), row(s), row(snap(1, 1, 2, "")), row(snap(mostNumber, mostNumber, mostConf, "long")), row(x, s), row(x, x, snap(300, 9, 2, "more")), run(5, 12),
		} {
			crashes(t, m, some)
		}
	}
}

// TestCrashByHand: 11.3, a Save of which each operation is lost.
func TestCrashByHand(t *testing.T) {
	s, x := snap(4, 2, 14, "ab"), snap(9, 3, 6, "xyz")
	for keep, c := range []struct {
		s    api.Snap
		left files
	}{
		{s, files{old: file(s), fresh: "left"}},
		{s, files{old: file(s), fresh: file(x)[:5]}},
		{s, files{old: file(s), fresh: file(x)}},
		{x, files{old: file(x)}},
	} {
		d := synced(t, files{old: file(s), fresh: "left"})
		saves(t, "11.3: by hand", d, x, api.OK)
		waits(t, "11.3: by hand", d, 3)
		d.Crash(keep, 5)
		what := fmt.Sprintf("11.3: %d operations are kept", keep)
		lies(t, what, d, c.left)
		opens(t, what, d, c.s)
		lies(t, what, d, files{old: c.left[old]})
	}
}

// TestCrashGreat: 11.3, snapshots of MaxImage bytes, cut off at some places.
func TestCrashGreat(t *testing.T) {
	s, x := snap(4, 2, 14, filled(mostData)), snap(9, 3, 6, "x"+filled(mostData-1))
	m := files{old: file(s), fresh: file(x)[:999]}
	p := saved(m, row(x))
	for keep := range len(p.done) + 1 {
		for _, torn := range []int{0, 1, 8, 300, mostData, len(file(x)) - 1} {
			what := fmt.Sprintf("11.3: great ones, Crash(%d, %d)", keep, torn)
			d := synced(t, m)
			saves(t, what, d, x, api.OK)
			d.Crash(keep, torn)
			left := p.crashed(keep, torn)
			lies(t, what, d, left)
			may(t, what, left, m, row(x))
			finds(t, what, d, left)
			lies(t, what, d, left.without(fresh))
		}
	}
}

// TestNotOpened: 11.3, a Save that comes behind a crash without an Open takes away what
// the crash left, and lays nothing behind it.
func TestNotOpened(t *testing.T) {
	s, x, y := snap(4, 2, 14, "ab"), snap(9, 3, 6, "xyz"), snap(12, 3, 2, "again")
	p := saved(files{old: file(s)}, row(x))
	for keep := range len(p.done) + 1 {
		for torn := range p.torn(keep) {
			what := fmt.Sprintf("11.3: not opened, Crash(%d, %d)", keep, torn)
			d := synced(t, files{old: file(s)})
			saves(t, what, d, x, api.OK)
			d.Crash(keep, torn)
			saves(t, what, d, y, api.OK)
			lies(t, what, d, files{old: file(y)})
			opens(t, what, d, y)
			crashes(t, p.crashed(keep, torn), row(y))
		}
	}
}

// TestMended: 11.3, that Open took snap.new away may be lost with what was saved behind
// it, or stay while that is lost.
func TestMended(t *testing.T) {
	some := row(snap(9, 3, 6, "xyz"), snap(300, 9, 2, ""))
	for _, m := range places() {
		p := past{m, m.opening()}
		for _, s := range some {
			p.done = append(p.done, p.now().saving(s)...)
		}
		for keep := range len(p.done) + 1 {
			for torn := range p.torn(keep) {
				what := fmt.Sprintf("11.3: mended, saved, Crash(%d, %d)", keep, torn)
				d := synced(t, m)
				finds(t, what, d, m)
				savesAll(t, what, d, some)
				waits(t, what, d, len(p.done))
				d.Crash(keep, torn)
				left := p.crashed(keep, torn)
				lies(t, what, d, left)
				may(t, what, left, m, some)
				openings(t, what, d, left)
			}
		}
	}
}

// TestCrashes: 11.3, one crash after the other, each in the midst of a Save.
func TestCrashes(t *testing.T) {
	for torn := range 24 {
		d := made(t, nil)
		last, there := api.Snap{}, false
		for i := range 200 {
			what := fmt.Sprintf("11.3: crash after crash, %d", i)
			answers(t, what, d, last, there, api.OK)
			mended := d.Pending()
			s := snap(uint64(i+1), uint64(i*i+1), 2*(i%127)+2, filled(i%9))
			saves(t, what, d, s, api.OK)
			if i%4 == 0 {
				d.Sync()
				last, there = s, true
				continue
			}
			keep := mended + i%4 - 1
			if keep == d.Pending() {
				last, there = s, true
			}
			d.Crash(keep, torn)
		}
	}
}
