package hard_test

import (
	"fmt"
	"strings"
	"testing"

	"bursar/api"
	"bursar/disk"
)

// goesOn fails where d does not work on: what is opened is h, and what is saved then is
// opened.
func goesOn(t *testing.T, what string, d *disk.Disk, h api.Hard) {
	t.Helper()
	what += ", gone on with"
	opens(t, what, d, h)
	for _, h := range run(100, 160) {
		saves(t, what, d, h, api.OK)
		opens(t, what, d, h)
		if t.Failed() {
			return
		}
	}
}

// tells answers the value that is told by the files m.
func tells(m files) api.Hard {
	h, _ := read(m[old])
	return h
}

// places answers files at which Save does one operation, two and three.
func places() []files {
	return []files{
		nil, {old: file(run(1, 3)...)}, {old: file(run(1, 3)...), fresh: "x"},
		{old: file(filling(long)...)}, {old: file(filling(long)...), fresh: "x"}, {old: file(filling(long + 9)...), fresh: file(value(8, 2))},
	}
}

// TestSaveFuse: 10.2, a disk that goes down at each operation of Save: ErrDown, nothing
// is done behind it, and after a crash all goes on.
func TestSaveFuse(t *testing.T) {
	h := value(9, 4)
	for _, m := range places() {
		p := past{m, m.saving(h)}
		for n := range len(p.done) + 1 {
			what := fmt.Sprintf("10.2: Save to %d and %d bytes, a fuse of %d", len(m[old]), len(m[fresh]), n)
			d := synced(t, m)
			d.Fuse(n)
			if n == len(p.done) {
				saves(t, what, d, h, api.OK)
				waits(t, what, d, n)
				saves(t, what+", and another", d, h, api.ErrDown)
				d.Crash(n, 0)
				goesOn(t, what, d, h)
				continue
			}
			saves(t, what, d, h, api.ErrDown)
			if !d.Down() {
				t.Errorf("%s: the disk is up", what)
			}
			waits(t, what, d, n)
			saves(t, what+", again", d, h, api.ErrDown)
			d.Crash(n, 0)
			lies(t, what, d, p.after(n))
			goesOn(t, what, d, tells(m))
		}
	}
}

// TestOpenFuse: 10.2, a disk that goes down at each operation of Open: ErrDown, and no
// value; after a crash it is opened.
func TestOpenFuse(t *testing.T) {
	for _, m := range []files{
		{old: "x"}, {old: file(run(1, 3)...) + "x"}, {fresh: ""}, {old: file(run(1, 3)...), fresh: "x"},
		{old: file(run(1, 3)...) + "x", fresh: "x"}, {old: file(filling(long)...) + framed("\x05\x08"), fresh: file(value(8, 2))},
	} {
		done := m.opening()
		for n := range len(done) + 1 {
			what := fmt.Sprintf("10.2: Open of %d and %d bytes, a fuse of %d", len(m[old]), len(m[fresh]), n)
			d := synced(t, m)
			d.Fuse(n)
			if n == len(done) {
				opens(t, what, d, tells(m))
				if d.Down() {
					t.Errorf("%s: the disk is down", what)
				}
				opens(t, what+", nothing is to be done", d, tells(m))
				continue
			}
			fails(t, what, d, api.ErrDown)
			if !d.Down() {
				t.Errorf("%s: the disk is up", what)
			}
			waits(t, what, d, n)
			d.Crash(n, 0)
			lies(t, what, d, past{m, done}.after(n))
			goesOn(t, what, d, tells(m))
		}
	}
}

// TestDown: 10.2, a disk that is down: it shows no files, so Open of it finds none and
// asks it for nothing; a Save is ErrDown.
func TestDown(t *testing.T) {
	for _, m := range places() {
		d := synced(t, m)
		d.Fuse(0)
		d.Sync()
		opens(t, "10.2: a disk that is down", d, value(0, 0))
		saves(t, "10.2: a disk that is down", d, value(9, 4), api.ErrDown)
		saves(t, "10.2: a disk that is down, wrong", d, value(9, 8), api.ErrArg)
		waits(t, "10.2: a disk that is down", d, 0)
		d.Crash(0, 0)
		lies(t, "10.2: a disk that was down", d, m)
		goesOn(t, "10.2: a disk that was down", d, tells(m))
	}
}

// TestFull: 10.2, a disk without room for the frame: ErrFull, and the value is the one
// that was there. Where the file begins anew, the old one takes room as well.
func TestFull(t *testing.T) {
	for _, m := range places() {
		for _, h := range row(value(9, 4), value(1<<49, 4)) {
			need := len(m[old]) + len(file(h))
			if len(m[old]) < long {
				need += len(m[fresh])
			}
			for _, room := range []int{0, 1, need - 20, need - 2, need - 1, need, need + 1} {
				what := fmt.Sprintf("10.2: Save(%v) to %d and %d bytes, a room of %d", h, len(m[old]), len(m[fresh]), room)
				d := synced(t, m)
				d.Room(max(room, 0))
				if room >= need {
					saves(t, what, d, h, api.OK)
					opens(t, what, d, h)
					continue
				}
				saves(t, what, d, h, api.ErrFull)
				left := m
				if len(m[old]) >= long {
					left = m.with(fresh, nil)
				}
				lies(t, what, d, left)
				opens(t, what, d, tells(m))
				d.Room(mostRoom)
				goesOn(t, what, d, tells(m))
			}
		}
	}
}

// TestFiles: 10.2, a disk that has as many files as it may: ErrFull where a file would
// come, but not where there is one.
func TestFiles(t *testing.T) {
	for _, c := range []struct {
		m    files
		want api.Errno
	}{
		{nil, api.ErrFull}, {files{fresh: "x"}, api.ErrFull}, {files{old: ""}, api.OK}, {files{old: file(run(1, 3)...)}, api.OK},
		{files{old: file(filling(long)...)}, api.ErrFull}, {files{old: file(filling(long)...), fresh: "x"}, api.OK},
	} {
		d := synced(t, c.m)
		for i := len(c.m); i < mostFiles; i++ {
			d.Append(fmt.Sprint("other", i), nil)
		}
		what := fmt.Sprintf("10.2: no file more, Save to %d and %d bytes", len(c.m[old]), len(c.m[fresh]))
		saves(t, what, d, value(9, 4), c.want)
		h := value(9, 4)
		if c.want != api.OK {
			h = tells(c.m)
		}
		opens(t, what, d, h)
		// One for hard, and one for hard.new.
		d.Remove("other8")
		d.Remove("other9")
		goesOn(t, what, d, h)
	}
}

// TestFirstError: 10.2, of two errors of the disk it is the first one that is answered,
// and a wrong argument ahead of both.
func TestFirstError(t *testing.T) {
	for _, c := range []struct {
		m          files
		room, fuse int
		want       api.Errno
	}{
		{nil, 9, 0, api.ErrDown}, {nil, 9, 1, api.ErrFull}, {nil, 10, 1, api.OK},
		{places()[3], long + 9, 0, api.ErrDown}, {places()[3], long + 9, 1, api.ErrFull}, {places()[3], long + 10, 1, api.ErrDown}, {places()[3], long + 10, 2, api.OK},
		{places()[4], long + 9, 0, api.ErrDown}, {places()[4], long + 9, 1, api.ErrDown}, {places()[4], long + 9, 2, api.ErrFull}, {places()[4], long + 10, 2, api.ErrDown}, {places()[4], long + 10, 3, api.OK},
	} {
		d := synced(t, c.m)
		d.Room(c.room)
		d.Fuse(c.fuse)
		saves(t, "10.2: ahead of the disk's errors", d, value(9, 8), api.ErrArg)
		saves(t, fmt.Sprintf("10.2: %d bytes, a room of %d, a fuse of %d", len(c.m[old]), c.room, c.fuse), d, value(9, 4), c.want)
	}
}

// TestNoRoom: 10.2, Open needs no room, and no fewer files than there are.
func TestNoRoom(t *testing.T) {
	d := synced(t, files{old: file(run(1, 3)...) + strings.Repeat("x", 99), fresh: "xx"})
	for i := range mostFiles - 2 {
		d.Append(fmt.Sprint("other", i), nil)
	}
	d.Room(0)
	opens(t, "10.2: no room", d, value(3, 3))
	if b, _ := d.Read(old); string(b) != file(run(1, 3)...) || len(d.Names()) != mostFiles-1 {
		t.Errorf("10.2: no room: %d bytes, %d files", len(b), len(d.Names()))
	}
}
