package photo_test

import (
	"fmt"
	"testing"

	"bursar/api"
	"bursar/disk"
)

// goesOn fails where d does not work on: what is opened is told by m, and what is saved
// then is opened.
func goesOn(t *testing.T, what string, d *disk.Disk, m files) {
	t.Helper()
	what += ", gone on with"
	finds(t, what, d, m)
	for _, s := range run(100, 110) {
		saves(t, what, d, s, api.OK)
		opens(t, what, d, s)
		if t.Failed() {
			return
		}
	}
}

// places answers files at which Save does two operations, and three.
func places() []files {
	s, left := file(snap(4, 2, 14, "ab")), file(snap(8, 3, 6, "left"))
	return []files{nil, {old: ""}, {old: "x"}, {old: s}, {old: s + "x"}, {fresh: ""}, {fresh: left}, {old: s, fresh: "x"}, {old: s, fresh: left}, {old: "x", fresh: left}}
}

// TestSaveFuse: 11.2, a disk that goes down at each operation of Save: ErrDown, nothing
// is done behind it, and after a crash all goes on.
func TestSaveFuse(t *testing.T) {
	s := snap(9, 3, 6, "xyz")
	for _, m := range places() {
		p := saved(m, row(s))
		for n := range len(p.done) + 1 {
			what := fmt.Sprintf("11.2: Save to %d and %d bytes, a fuse of %d", len(m[old]), len(m[fresh]), n)
			d := synced(t, m)
			d.Fuse(n)
			if n == len(p.done) {
				saves(t, what, d, s, api.OK)
				if d.Down() {
					t.Errorf("%s: the disk is down", what)
				}
				waits(t, what, d, n)
				saves(t, what+", and another", d, s, api.ErrDown)
			} else {
				saves(t, what, d, s, api.ErrDown)
				if !d.Down() {
					t.Errorf("%s: the disk is up", what)
				}
				waits(t, what, d, n)
				saves(t, what+", again", d, s, api.ErrDown)
			}
			d.Crash(n, 0)
			lies(t, what, d, p.after(n))
			goesOn(t, what, d, p.after(n))
		}
	}
}

// TestOpenFuse: 11.2, a disk that goes down where Open takes snap.new away: ErrDown, and
// no snapshot; where there is nothing to take away, no operation is asked for.
func TestOpenFuse(t *testing.T) {
	for _, m := range places() {
		what := fmt.Sprintf("11.2: Open of %d and %d bytes, no operation more", len(m[old]), len(m[fresh]))
		d := synced(t, m)
		d.Fuse(0)
		if !m.has(fresh) {
			finds(t, what, d, m)
			if d.Down() {
				t.Errorf("%s: the disk is down", what)
			}
			continue
		}
		fails(t, what, d, api.ErrDown)
		if !d.Down() {
			t.Errorf("%s: the disk is up", what)
		}
		waits(t, what, d, 0)
		d.Crash(0, 0)
		lies(t, what, d, m)
		d.Fuse(1)
		finds(t, what+", and one", d, m)
		waits(t, what+", and one", d, 1)
		finds(t, what+", and one", d, m)
		d.Fuse(-1)
		goesOn(t, what, d, m)
	}
}

// TestDown: 11.2, a disk that is down: it shows no files, so Open of it finds none and
// asks it for nothing; a Save is ErrDown.
func TestDown(t *testing.T) {
	for _, m := range places() {
		d := synced(t, m)
		d.Fuse(0)
		d.Sync()
		misses(t, "11.2: a disk that is down", d)
		saves(t, "11.2: a disk that is down", d, snap(9, 3, 6, "xyz"), api.ErrDown)
		saves(t, "11.2: a disk that is down, wrong", d, snap(9, 3, 7, "xyz"), api.ErrArg)
		waits(t, "11.2: a disk that is down", d, 0)
		d.Crash(0, 0)
		lies(t, "11.2: a disk that was down", d, m)
		goesOn(t, "11.2: a disk that was down", d, m)
	}
}

// TestFull: 11.2, a disk without room for the frame beside the snapshot that is there:
// ErrFull, and that one is told further on.
func TestFull(t *testing.T) {
	for _, m := range places() {
		for _, s := range row(snap(9, 3, 6, ""), snap(9, 3, 6, "xyz"), snap(9, 3, 6, filled(mostData))) {
			need := len(m[old]) + len(file(s))
			for _, room := range []int{0, 1, len(m[old]), need - 2, need - 1, need, need + 1} {
				what := fmt.Sprintf("11.2: Save(%s) to %d and %d bytes, a room of %d", short(s), len(m[old]), len(m[fresh]), room)
				d := synced(t, m)
				d.Room(room)
				if room >= need {
					saves(t, what, d, s, api.OK)
					opens(t, what, d, s)
					continue
				}
				saves(t, what, d, s, api.ErrFull)
				lies(t, what, d, m.without(fresh))
				waits(t, what, d, len(m.opening()))
				finds(t, what, d, m)
				d.Room(mostRoom)
				goesOn(t, what, d, m)
			}
		}
	}
}

// TestFiles: 11.2, a disk that has as many files as it may: ErrFull where snap.new would
// be one more, but not where it is there already.
func TestFiles(t *testing.T) {
	for _, m := range places() {
		d := synced(t, m)
		for i := len(m); i < mostFiles; i++ {
			d.Append(fmt.Sprint("other", i), nil)
		}
		what := fmt.Sprintf("11.2: no file more, Save to %d and %d bytes", len(m[old]), len(m[fresh]))
		s := snap(9, 3, 6, "xyz")
		if m.has(fresh) {
			saves(t, what, d, s, api.OK)
			opens(t, what, d, s)
			continue
		}
		saves(t, what, d, s, api.ErrFull)
		finds(t, what, d, m)
		// One for snap.new, and one for snap.
		d.Remove("other8")
		d.Remove("other9")
		goesOn(t, what, d, m)
	}
}

// TestFirstError: 11.2, of two errors of the disk it is the first one that is answered,
// and a wrong argument ahead of both.
func TestFirstError(t *testing.T) {
	s := file(snap(4, 2, 14, "ab"))
	for _, c := range []struct {
		m          files
		room, fuse int
		want       api.Errno
	}{
		{nil, 14, 0, api.ErrDown}, {nil, 14, 1, api.ErrFull}, {nil, 15, 0, api.ErrDown}, {nil, 15, 1, api.ErrDown}, {nil, 15, 2, api.OK},
		{files{old: s}, 28, 0, api.ErrDown}, {files{old: s}, 28, 1, api.ErrFull}, {files{old: s}, 29, 1, api.ErrDown}, {files{old: s}, 29, 2, api.OK},
		{files{old: s, fresh: "x"}, 28, 0, api.ErrDown}, {files{old: s, fresh: "x"}, 28, 1, api.ErrDown}, {files{old: s, fresh: "x"}, 28, 2, api.ErrFull},
		{files{old: s, fresh: "x"}, 29, 2, api.ErrDown}, {files{old: s, fresh: "x"}, 29, 3, api.OK},
	} {
		d := synced(t, c.m)
		d.Room(c.room)
		d.Fuse(c.fuse)
		saves(t, "11.2: ahead of the disk's errors", d, snap(9, 3, 7, "xyz"), api.ErrArg)
		saves(t, fmt.Sprintf("11.2: %d bytes, a room of %d, a fuse of %d", len(c.m[old]), c.room, c.fuse), d, snap(9, 3, 6, "xyz"), c.want)
	}
}

// TestNoRoom: 11.2, Open needs no room, and no fewer files than there are.
func TestNoRoom(t *testing.T) {
	s := snap(4, 2, 14, "ab")
	d := synced(t, files{old: file(s), fresh: "xx"})
	for i := range mostFiles - 2 {
		d.Append(fmt.Sprint("other", i), nil)
	}
	d.Room(0)
	opens(t, "11.2: no room", d, s)
	if b, _ := d.Read(old); string(b) != file(s) || len(d.Names()) != mostFiles-1 {
		t.Errorf("11.2: no room: %d bytes, %d files", len(b), len(d.Names()))
	}
}
