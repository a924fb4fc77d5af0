package store_test

import (
	"fmt"
	"maps"
	"math"
	"testing"

	"bursar/api"
)

// tells fails where Open of files does not tell what 12.1 asks for, or leaves other files;
// or where it does not answer ErrDown at each of its operations at which the disk goes
// down, behind just those that come ahead of it.
func tells(t *testing.T, what string, m files) {
	t.Helper()
	want, k, some := opening(m, leastLimit)
	p := past{begin: m}
	for fuse := range some {
		d := made(t, m)
		d.Fuse(fuse)
		refuses(t, fmt.Sprintf("%s, a fuse of %d", what, fuse), d, leastLimit, api.ErrDown)
		if d.Pending() != fuse || !d.Down() {
			t.Errorf("12.1: %s, a fuse of %d: %d operations, down %v", what, fuse, d.Pending(), d.Down())
		}
		d.Crash(fuse, 0)
		lies(t, fmt.Sprintf("12.1: %s, a fuse of %d", what, fuse), d, past{p.begin, some}.after(fuse))
		opens(t, fmt.Sprintf("12.4: %s, a fuse of %d", what, fuse), d, want)
	}
	d := made(t, m)
	d.Fuse(len(some))
	s := opens(t, "12.1: "+what, d, want)
	if d.Down() {
		t.Errorf("12.1: %s: more than %d operations", what, len(some))
	}
	_, last := k.log.ends()
	ends(t, "12.1: "+what, s, last)
	lies(t, "12.1: "+what, d, p.then(some).now())
	d.Crash(0, 0)
	lies(t, "12.1: "+what+", a crash", d, p.then(some).now())
	opens(t, "12.1: "+what+", again", d, want)
}

// TestBlank: 12.1, the chapter's example, and the Sync that comes even if nothing was done.
func TestBlank(t *testing.T) {
	d := made(t, nil)
	s := opens(t, "12.1: an empty disk", d, told(votes(0, 0), api.Snap{}))
	ends(t, "12.1: an empty disk", s, 0)
	lies(t, "12.1: an empty disk", d, nil)
	asks(t, "12.1: an empty disk", s, saving(votes(1, 2), 1, none(1, 1)), api.OK)
	d.Crash(0, 0)
	s = opens(t, "12.1: behind a crash", d, told(votes(1, 2), api.Snap{}, none(1, 1)))
	ends(t, "12.1: behind a crash", s, 1)
	d.Append("other", []byte("x"))
	opens(t, "12.1: what others did", d, told(votes(1, 2), api.Snap{}, none(1, 1)))
	d.Crash(0, 0)
	lies(t, "12.1: what others did is synced", d, stored(votes(1, 2), api.Snap{}, row(none(1, 1))).with("other", "x"))
	tells(t, "an empty disk", nil)
	tells(t, "other files", files{"other": "x", "s1": "y"})
}

// TestLimits: 12.1, limits at their edges, and no disk.
func TestLimits(t *testing.T) {
	m := stored(votes(3, 1), snap(5, 2, "ab"), run(2, 9, 10)).with(snapNew, "x").with(hardNew, "y").with(hardName, "torn")
	for _, limit := range []int{math.MinInt, -64, -1, 0, 1, 63, mostLimit + 1, math.MaxInt} {
		refuses(t, "12.1: no disk", nil, limit, api.ErrArg)
		d := made(t, m)
		d.Fuse(0)
		refuses(t, "12.1: the limit", d, limit, api.ErrArg)
		if d.Down() || d.Pending() != 0 {
			t.Errorf("R3: the limit %d: %d operations, down %v", limit, d.Pending(), d.Down())
		}
		lies(t, "R3: the limit", d, m)
	}
	for _, limit := range []int{64, 65, 90, 4096, mostLimit - 1, mostLimit} {
		what := fmt.Sprintf("12.1: the limit %d", limit)
		refuses(t, what+", no disk", nil, limit, api.ErrArg)
		d := made(t, nil)
		s, _ := opened(t, what, d, limit)
		// The first segment takes all but the last of them.
		some := run(2, 1, uint64(limit/30)+1)
		n := len(some) - 1
		asks(t, what, s, saving(votes(9, 0), 1, some...), api.OK)
		lies(t, what, d, stored(votes(9, 0), api.Snap{}, some[:n], some[n:]))
	}
}

// TestBases: 12.1, which logs match a base.
func TestBases(t *testing.T) {
	h := votes(mostNumber, 3)
	five := [][]api.Entry{run(2, 5, 6), {sized(3, 7, 30), sized(3, 8, 30)}, {sized(5, 9, 30)}}
	for i, c := range []struct {
		rows  [][]api.Entry
		base  api.Snap
		match bool
		left  uint64 // the first one that is told
	}{
		{nil, api.Snap{}, true, 0},
		{nil, snap(7, 2, "ab"), true, 0},
		{nil, snap(mostNumber, mostNumber, ""), true, 0},

		// Its Last is less than the Index, the same, and more.
		{five, snap(10, 5, ""), false, 0},
		{five, snap(11, 5, ""), false, 0},
		{five, snap(mostNumber, 5, ""), false, 0},
		{five, snap(9, 5, ""), true, 0},
		{five, snap(8, 3, ""), true, 9},

		// Its First is less than the Index plus 1, the same, and more.
		{five, snap(5, 2, ""), true, 6},
		{five, snap(4, 2, ""), true, 5},
		{five, snap(3, 2, ""), false, 0},
		{five, snap(1, 1, ""), false, 0},
		{five, api.Snap{}, false, 0},

		// The entry with the Index has another term.
		{five, snap(5, 1, ""), false, 0},
		{five, snap(5, 3, ""), false, 0},
		{five, snap(6, 2, ""), true, 7},
		{five, snap(6, 3, ""), false, 0},
		{five, snap(7, 3, ""), true, 8},
		{five, snap(7, 2, ""), false, 0},
		{five, snap(7, mostNumber, ""), false, 0},
		{five, snap(9, 4, ""), false, 0},
		{five, snap(9, 6, ""), false, 0},

		// The next one has a lower term, where there is none with the Index.
		{five, snap(4, 1, ""), true, 5},
		{five, snap(4, 3, ""), false, 0},
		{five, snap(4, mostNumber, ""), false, 0},

		// A base of zero.
		{[][]api.Entry{run(1, 1, 2)}, api.Snap{}, true, 1},
		{[][]api.Entry{{none(mostNumber, 1)}}, api.Snap{}, true, 1},
		{[][]api.Entry{run(1, 2, 3)}, api.Snap{}, false, 0},
		{[][]api.Entry{{none(1, mostNumber)}}, api.Snap{}, false, 0},
		{[][]api.Entry{{none(1, mostNumber)}}, snap(mostNumber, 1, ""), true, 0},
		{[][]api.Entry{{none(1, mostNumber)}}, snap(mostNumber-1, 1, ""), true, mostNumber},
		{[][]api.Entry{{none(1, mostNumber)}}, snap(mostNumber-1, 2, ""), false, 0},
	} {
		what := fmt.Sprintf("the base %d", i)
		m := stored(h, c.base, c.rows...)
		left := m
		want := told(h, c.base)
		var last uint64
		for _, some := range c.rows {
			for _, x := range some {
				if last = x.Index; c.left > 0 && x.Index >= c.left {
					want.Entries = append(want.Entries, x)
				}
			}
		}
		if !c.match {
			left, last = stored(h, c.base), 0
		}
		d := made(t, m)
		s := opens(t, "12.1: "+what, d, want)
		ends(t, "12.1: "+what, s, last)
		lies(t, "12.1: "+what, d, left)
		tells(t, what, m)
	}
}

// TestReset: 12.1, a log that does not match is taken away whole, the last segment first.
func TestReset(t *testing.T) {
	m := stored(votes(9, 1), snap(3, 1, "ab"), run(1, 5, 6), run(1, 7, 8), run(2, 9, 9))
	_, _, some := opening(m, leastLimit)
	if len(some) != 4 || some[0].left.has(name(9)) || !some[0].left.has(name(7)) || some[2].left.has(name(5)) || !some[3].sync {
		t.Fatalf("the reading of 12.1 is wrong: %s", short(some))
	}
	tells(t, "a log to be taken away", m)
	d := made(t, m)
	s := opens(t, "12.1: a log that was taken away", d, told(votes(9, 1), snap(3, 1, "ab")))
	asks(t, "12.1: a log that was taken away", s, saving(votes(9, 1), 4, run(9, 4, 4)...), api.OK)
	lies(t, "12.1: a log that was taken away", d, stored(votes(9, 1), snap(3, 1, "ab"), run(9, 4, 4)))
}

// TestHard: 12.1, the term and vote that are told beside entries, and beside a base alone.
func TestHard(t *testing.T) {
	p := snap(4, 5, "")
	entries := row(none(6, 5), none(6, 6), none(7, 7))
	for _, c := range []struct {
		h    api.Hard
		p    api.Snap
		some []api.Entry
		want api.Hard
	}{
		{votes(0, 0), api.Snap{}, nil, votes(0, 0)},
		{votes(0, 3), api.Snap{}, nil, votes(0, 3)},
		{votes(3, 2), api.Snap{}, nil, votes(3, 2)},
		{votes(4, 2), p, nil, votes(5, 0)},
		{votes(5, 2), p, nil, votes(5, 2)},
		{votes(6, 2), p, nil, votes(6, 2)},
		{votes(0, 0), p, nil, votes(5, 0)},
		{votes(4, 2), p, entries, votes(7, 0)},
		{votes(5, 2), p, entries, votes(7, 0)},
		{votes(6, 2), p, entries, votes(7, 0)},
		{votes(7, 2), p, entries, votes(7, 2)},
		{votes(8, 2), p, entries, votes(8, 2)},
		{votes(0, 0), p, entries, votes(7, 0)},
		{votes(1, 1), api.Snap{}, row(none(1, 1)), votes(1, 1)},
		{votes(1, 1), api.Snap{}, row(none(2, 1)), votes(2, 0)},
		{votes(1, 1), api.Snap{}, row(none(1, 1), none(mostNumber, 2)), votes(mostNumber, 0)},
		{votes(mostNumber, 7), api.Snap{}, row(none(1, 1), none(mostNumber, 2)), votes(mostNumber, 7)},

		// Those of the base or ahead of it are none of those that are told.
		{votes(4, 2), p, row(none(1, 3), none(5, 4)), votes(5, 0)},
		{votes(4, 2), p, row(none(5, 4), none(6, 5)), votes(6, 0)},
		{votes(5, 2), p, row(none(5, 4)), votes(5, 2)},

		// Nor are those of a log that is taken away.
		{votes(4, 2), p, row(none(9, 3)), votes(5, 0)},
		{votes(6, 2), p, row(none(9, 6)), votes(6, 2)},
		{votes(6, 2), api.Snap{}, row(none(9, 2)), votes(6, 2)},
	} {
		m := stored(c.h, c.p)
		if c.some != nil {
			m = stored(c.h, c.p, c.some)
		}
		what := fmt.Sprintf("%v beside %s and %s", c.h, short(c.p.Base), short(c.some))
		if got := hardOf(t, what, m); got != c.want {
			t.Errorf("12.1: %s: Hard is %v, not %v", what, got, c.want)
		}
		tells(t, what, m)
	}
}

// hardOf answers the Hard that is told of files.
func hardOf(t *testing.T, what string, m files) api.Hard {
	t.Helper()
	_, got := opened(t, what, made(t, m), leastLimit)
	return got.Hard
}

// TestHardStays: 12.1, a term that is raised is told alone: the file stays as it is.
func TestHardStays(t *testing.T) {
	m := stored(votes(1, 1), api.Snap{}, row(none(2, 1)))
	d := made(t, m)
	for range 3 {
		opens(t, "12.1: a raised term", d, told(votes(2, 0), api.Snap{}, none(2, 1)))
		lies(t, "12.1: a raised term", d, m)
	}
}

// TestSpoilt: 12.1, files that a crash left torn, or that hold other things: each layer
// puts its own right, the snapshot first, then the term, then the log.
func TestSpoilt(t *testing.T) {
	whole := stored(votes(3, 1), snap(5, 2, "ab"), run(2, 5, 6), run(2, 7, 8), run(3, 9, 9))
	tells(t, "nothing torn", whole)
	tells(t, "all torn", with(whole, files{snapNew: "x", hardNew: "y", hardName: whole[hardName] + "z", name(7): whole[name(7)] + "t"}))
	tells(t, "hard is torn", whole.with(hardName, whole[hardName]+"\x05"))
	tells(t, "hard holds nothing", whole.with(hardName, "x"))
	tells(t, "hard holds what may not be", whole.with(hardName, framed("\x01\x08")))
	tells(t, "the first of hard holds", whole.with(hardName, whole[hardName]+hards(votes(4, 4))+"torn"))
	tells(t, "the snapshot is torn", whole.with(snapName, whole[snapName][:9]))
	tells(t, "the snapshot is none, the log begins at 1", stored(votes(3, 1), api.Snap{}, run(2, 1, 2)).with(snapName, "x"))
	tells(t, "two snapshots", whole.with(snapName, whole[snapName]+whole[snapName]))
	tells(t, "a snapshot with a foreign base", whole.with(snapName, framed("\x05\x02\x0f\x00")))
	for _, first := range []uint64{5, 7, 9} {
		s := whole[name(first)]
		for _, cut := range []int{0, 1, 29, 30, 31, 59} {
			if cut < len(s) {
				tells(t, fmt.Sprintf("the segment %d has %d bytes", first, cut), whole.with(name(first), s[:cut]))
			}
		}
		tells(t, fmt.Sprintf("the segment %d is gone", first), whole.without(name(first)))
		tells(t, fmt.Sprintf("the segment %d goes on", first), whole.with(name(first), s+segment(none(1, first+2))))
	}
	tells(t, "the log ends ahead of the base", stored(votes(3, 1), snap(7, 2, ""), run(2, 5, 6), run(2, 7, 8)).with(name(7), "x"))
	tells(t, "the log ends at the base", stored(votes(3, 1), snap(6, 2, ""), run(2, 5, 6), run(2, 7, 8)).with(name(7), "x"))
}

// with answers m with some files that are others.
func with(m, others files) files {
	m = maps.Clone(m)
	maps.Copy(m, others)
	return m
}

// TestOpenDown: 12.1, a disk that is down shows no files, and the Sync is ErrDown.
func TestOpenDown(t *testing.T) {
	m := stored(votes(3, 1), snap(5, 2, "ab"), run(2, 5, 6)).with(snapNew, "x")
	d := made(t, m)
	d.Fuse(0)
	d.Sync()
	refuses(t, "12.1: a disk that is down", d, leastLimit, api.ErrDown)
	refuses(t, "12.1: a disk that is down, the limit", d, leastLimit-1, api.ErrArg)
	d.Crash(0, 0)
	lies(t, "12.1: a disk that was down", d, m)
	tells(t, "a disk that was down", m)
}

// TestOpenNoRoom: 12.1, Open needs no room.
func TestOpenNoRoom(t *testing.T) {
	m := stored(votes(3, 1), snap(7, 2, "ab"), run(2, 5, 6), run(2, 7, 8), run(3, 9, 9)).with(snapNew, "x").with(hardNew, "y")
	want, _, some := opening(m, leastLimit)
	d := made(t, m)
	d.Room(0)
	opens(t, "12.1: no room", d, want)
	lies(t, "12.1: no room", d, past{begin: m}.then(some).now())
}

// TestOpenTwice: 12.1 and R4, what lies there is told alike, however often it is opened.
func TestOpenTwice(t *testing.T) {
	m := stored(votes(3, 1), snap(5, 2, "ab"), run(2, 5, 6), run(2, 7, 8))
	d := made(t, m)
	want, _, _ := opening(m, leastLimit)
	for range 3 {
		opens(t, "12.1: again", d, want)
	}
	lies(t, "12.1: again", d, m)
}
