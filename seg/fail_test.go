package seg_test

import (
	"fmt"
	"testing"

	"bursar/api"
	"bursar/disk"
)

// after answers how a log lies after some calls that all go well.
func after(limit int, some ...call) parts {
	var p parts
	for _, c := range some {
		if steps := c.steps(p, limit); len(steps) > 0 {
			p = steps[len(steps)-1]
		}
	}
	return p
}

// TestFuse: 9.5, a disk that goes down at each operation of each call: ErrDown, nothing
// is done behind it, and a log that is opened anew works from there on.
func TestFuse(t *testing.T) {
	some := run(2, 50, 57)
	for _, c := range []call{add(run(2, 58, 62)...), add(none(3, 58)), cut(55), cut(54), cut(53), cut(0), drop(51), drop(54), drop(99), reset()} {
		begin := after(leastLimit, add(some...))
		steps := c.steps(begin, leastLimit)
		for n := range len(steps) + 1 {
			what := fmt.Sprintf("9.5: %s(%d), a fuse of %d", c.what, c.index, n)
			d, l := begun(t, leastLimit, some...)
			d.Sync()
			d.Fuse(n)
			if n == len(steps) {
				asks(t, what, l, c, api.OK)
				continue
			}
			asks(t, what, l, c, api.ErrDown)
			if !d.Down() || d.Pending() != n {
				t.Errorf("%s: %d operations, down %v", what, d.Pending(), d.Down())
			}
			d.Crash(n, 0)
			left := append([]parts{begin}, steps...)[n]
			goesOn(t, what, d, left)
		}
	}
}

// goesOn fails where the log on d, opened anew, is not p, or does not work.
func goesOn(t *testing.T, what string, d *disk.Disk, p parts) {
	t.Helper()
	l := opened(t, d, leastLimit)
	holds(t, what+", opened anew", l, p.entries())
	lies(t, what+", opened anew", d, p.files())
	next := uint64(7)
	if len(p) > 0 {
		next = l.Last() + 1
	}
	for _, c := range []call{add(run(9, next, next+4)...), cut(next + 3), drop(next), add(none(9, next+3)), cut(next + 1), reset(), add(none(1, 1))} {
		steps := c.steps(p, leastLimit)
		if len(steps) > 0 {
			p = steps[len(steps)-1]
		}
		asks(t, what+", opened anew", l, c, api.OK)
		holds(t, what+", opened anew", l, p.entries())
		lies(t, what+", opened anew", d, p.files())
	}
}

// TestFull: 9.5, a disk without room for one of the entries: ErrFull, and none behind it
// is appended, though there would be room.
func TestFull(t *testing.T) {
	some := row(sized(2, 5, 30), sized(2, 6, 34), sized(2, 7, 60), sized(2, 8, 13), sized(2, 9, 40))
	ends := []int{0, 30, 64, 124, 137, 177}
	for room := range 178 {
		d, l := begun(t, leastLimit)
		d.Room(room)
		fit := 0
		for fit < len(some) && ends[fit+1] <= room {
			fit++
		}
		want := api.ErrFull
		if fit == len(some) {
			want = api.OK
		}
		what := fmt.Sprintf("9.5: a room of %d", room)
		asks(t, what, l, add(some...), want)
		lies(t, what, d, after(leastLimit, add(some[:fit]...)).files())
		d.Room(mostRoom)
		goesOn(t, what, d, after(leastLimit, add(some[:fit]...)))
	}
}

// TestFiles: 9.5, a disk that has as many files as it may: ErrFull where a segment would
// begin, but not where the last one takes more.
func TestFiles(t *testing.T) {
	for _, others := range []int{0, 1, 60} {
		d, l := begun(t, leastLimit)
		for i := range others {
			d.Append(fmt.Sprint("other", i), []byte("x"))
		}
		var some []api.Entry
		for i := range mostFiles - others {
			some = append(some, sized(2, uint64(i+1), 50))
		}
		asks(t, "9.5: as many files as may be", l, add(some...), api.OK)
		last := uint64(len(some))
		if n := len(d.Names()); n != mostFiles {
			t.Errorf("9.5: %d files", n)
		}
		asks(t, "9.5: in the last one", l, add(sized(2, last+1, 14)), api.OK)
		asks(t, "9.5: a file more", l, add(sized(2, last+2, 14)), api.ErrFull)
		some = append(some, sized(2, last+1, 14))
		l = opened(t, d, leastLimit)
		holds(t, "9.5: opened anew", l, some)
		asks(t, "9.5: opened anew, one goes", l, drop(1), api.OK)
		asks(t, "9.5: opened anew, one comes", l, add(sized(2, last+2, 14)), api.OK)
		holds(t, "9.5: opened anew, one comes", l, append(some[1:], sized(2, last+2, 14)))
	}
}

// TestFirstError: 9.5, of two errors of the disk it is the first one that is answered,
// and a wrong argument ahead of both.
func TestFirstError(t *testing.T) {
	some := row(sized(2, 5, 30), sized(2, 6, 30), sized(2, 7, 30))
	for _, c := range []struct {
		room, fuse int
		want       api.Errno
	}{{59, 2, api.ErrFull}, {60, 2, api.ErrDown}, {59, 1, api.ErrDown}, {29, 1, api.ErrFull}, {29, 0, api.ErrDown}, {89, 3, api.ErrFull}, {90, 3, api.OK}} {
		d, l := begun(t, leastLimit)
		d.Room(c.room)
		d.Fuse(c.fuse)
		asks(t, "9.4: ahead of the disk's errors", l, add(append(some, none(1, 8))...), api.ErrArg)
		asks(t, fmt.Sprintf("9.5: a room of %d, a fuse of %d", c.room, c.fuse), l, add(some...), c.want)
	}
}

// TestGone: 9.5, files that are gone when they are to be taken away or cut off: that
// error is answered too, and nothing is done behind it.
func TestGone(t *testing.T) {
	for _, c := range []call{reset(), cut(0), cut(51), cut(54), drop(99)} {
		d, l := begun(t, leastLimit, run(2, 50, 54)...)
		gone := name(54)
		if c.what == "Drop" {
			gone = name(50)
		}
		d.Remove(gone)
		names, done := fmt.Sprint(d.Names()), d.Pending()
		asks(t, "9.5: "+gone+" is gone", l, c, api.ErrNone)
		if fmt.Sprint(d.Names()) != names || d.Pending() != done {
			t.Errorf("9.5: %s is gone, %s(%d): %q", gone, c.what, c.index, d.Names())
		}
	}
	d, l := begun(t, leastLimit, run(2, 50, 53)...)
	d.Truncate(name(52), 9)
	asks(t, "9.5: a file that is too short", l, cut(53), api.ErrArg)
	d.Remove(name(52))
	asks(t, "9.5: a file that is gone", l, cut(53), api.ErrNone)
}

// TestAfterErrors: R1, whatever a log answers after an error of the disk, or after a
// crash, it answers; and one that is opened anew then opens.
func TestAfterErrors(t *testing.T) {
	calls := []call{add(run(2, 55, 56)...), cut(53), drop(52), add(none(2, 53)), reset(), add(none(5, 5)), cut(5), cut(0), drop(0)}
	for fuse := range 6 {
		for up := range calls {
			d, l := begun(t, leastLimit, run(2, 50, 54)...)
			d.Fuse(fuse)
			for i, c := range calls {
				if i == up {
					d.Crash(fuse, 3)
				}
				c.on(l)
				l.First()
				l.Last()
				l.List()
				firsts(l, 2)
			}
			d.Crash(fuse, 0)
			opened(t, d, leastLimit)
		}
	}
}
