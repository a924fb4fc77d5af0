package disk_test

import (
	"math"
	"testing"

	"bursar/api"
	"bursar/disk"
)

// five are calls of each kind, that all go well on a Disk that has files a and b.
func five() []call {
	return row(add("a", "1"), cut("a", 0), move("a", "b"), drop("b"), sync())
}

// TestFuse: 7.2 and 7.3, so many operations go well as a fuse is long, of whichever
// kind, and the next one puts the Disk down, and does nothing.
func TestFuse(t *testing.T) {
	for n := range 7 {
		for _, last := range five() {
			d := begun(t, 99, add("a", "xyz"), add("b", "q"), sync())
			m := map[string]string{"a": "xyz", "b": "q"}
			d.Fuse(n)
			for i := range n {
				asks(t, "7.3: as long as it burns", d, add("a", "12"), api.OK)
				m["a"] += "12"
				holds(t, "7.3: as long as it burns", d, m)
				stands(t, "7.3: as long as it burns", d, i+1, false)
			}
			holds(t, "7.3: at the end of the fuse", d, m)
			asks(t, "7.3: beyond the fuse", d, last, api.ErrDown)
			holds(t, "7.1: while it is down", d, nil)
			stands(t, "7.3: what waited is still pending", d, n, true)
			crashes(t, "7.3: what was let through", d, n, 1, n, m)
		}
	}
}

// TestFuseOfEach: 7.2, each kind of call burns the fuse by one, whether it goes well
// or not, and no other call does.
func TestFuseOfEach(t *testing.T) {
	begin := func() *disk.Disk {
		d := begun(t, 9, add("a", "123"), add("b", ""))
		d.Fuse(1)
		return d
	}
	burnt := func(d *disk.Disk, c call) {
		t.Helper()
		stands(t, "7.2: one is burnt, none is left", d, d.Pending(), false)
		asks(t, "7.2: after "+c.what+" of "+c.name, d, sync(), api.ErrDown)
		stands(t, "7.2: the fuse has burnt", d, d.Pending(), true)
	}
	for _, c := range five() {
		d := begin()
		asks(t, "7.2", d, c, api.OK)
		burnt(d, c)
	}
	for _, f := range fails {
		d := begin()
		asks(t, "7.2", d, f.of, f.why)
		burnt(d, f.of)
	}
	d := begin()
	for range 9 {
		d.Read("a")
		d.Names()
		d.Used()
		d.Room(9)
		d.Room(-1)
		d.Down()
		d.Pending()
	}
	all(t, d, sync())
	asks(t, "7.2: one was let through", d, sync(), api.ErrDown)
}

// TestFuseBelow: 7.3, below 0 there is none, and one that was set is taken away.
func TestFuseBelow(t *testing.T) {
	for _, n := range []int{-1, -2, -7, math.MinInt32, math.MinInt} {
		for _, old := range []int{-1, 0, 1, 5} {
			d := made(t, 99)
			d.Fuse(old)
			d.Fuse(n)
			for range 20 {
				all(t, d, add("a", "1"), sync())
			}
			stands(t, "7.3: no fuse", d, 0, false)
		}
	}
}

// TestFuseAgain: 7.3, it is the last one that counts, in the midst of another, too.
func TestFuseAgain(t *testing.T) {
	d := made(t, 99)
	d.Fuse(2)
	all(t, d, sync())
	d.Fuse(3)
	all(t, d, sync(), sync())
	d.Fuse(math.MaxInt)
	for range 9 {
		all(t, d, sync())
	}
	d.Fuse(0)
	stands(t, "7.3: a fuse of 0 alone does nothing", d, 0, false)
	d.Fuse(1)
	all(t, d, sync())
	asks(t, "7.3: the last one", d, sync(), api.ErrDown)
}

// TestFuseShows: 7.3, a fuse of 0 hides nothing until something is asked.
func TestFuseShows(t *testing.T) {
	d := begun(t, 9, add("a", "123"))
	d.Fuse(0)
	holds(t, "7.3: a fuse of 0", d, map[string]string{"a": "123"})
	stands(t, "7.3: a fuse of 0", d, 1, false)
	asks(t, "7.2: down ahead of all else", d, add("", letters(99)), api.ErrDown)
	holds(t, "7.1: while it is down", d, nil)
}

// TestDown: 7.1 and 7.2, while it is down, a Disk shows nothing, and answers each
// operation alike, right or wrong; a fuse puts nothing right.
func TestDown(t *testing.T) {
	for _, fuse := range []int{-1, 0, 1, 9} {
		d := begun(t, 9, add("a", "12"), sync(), add("a", "3"), add("b", ""))
		d.Fuse(0)
		asks(t, "7.2", d, sync(), api.ErrDown)
		d.Fuse(fuse)
		stands(t, "7.3: a fuse while it is down", d, 2, true)
		for range 3 {
			for _, c := range five() {
				asks(t, "7.2: while it is down", d, c, api.ErrDown)
			}
			for _, f := range fails {
				asks(t, "7.2: while it is down", d, f.of, api.ErrDown)
			}
		}
		holds(t, "7.1: while it is down", d, nil)
		stands(t, "7.1: while it is down", d, 2, true)
		crashes(t, "7.4: of one that was down", d, 2, 0, 2, map[string]string{"a": "123", "b": ""})
		for range 20 {
			asks(t, "7.4: no fuse is set", d, sync(), api.OK)
		}
	}
}

// TestDownInAppend: 7.2 and 7.4, the operation at the end of the fuse was never
// pending, so a crash leaves no part of it.
func TestDownInAppend(t *testing.T) {
	for torn := range 9 {
		d := begun(t, 99, add("a", "xyz"), sync())
		d.Fuse(0)
		asks(t, "7.2", d, add("a", "123456"), api.ErrDown)
		stands(t, "7.2: what was not let through", d, 0, true)
		crashes(t, "7.4: what was not let through", d, torn, torn, 0, map[string]string{"a": "xyz"})
	}
}

// TestCrashTakesFuse: 7.4, a crash takes the fuse away, of a Disk that is up as well.
func TestCrashTakesFuse(t *testing.T) {
	for fuse := range 4 {
		d := made(t, 99)
		d.Fuse(fuse)
		d.Crash(0, 0)
		for range 20 {
			all(t, d, add("a", "1"), sync())
		}
	}
}
