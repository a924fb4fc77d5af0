package disk_test

import (
	"bytes"
	"slices"
	"testing"

	"bursar/api"
	"bursar/disk"
)

// TestBytesStay: R2, bytes that are handed in are not changed, nor the room behind
// them, whether Append goes well or not, nor by anything that comes later.
func TestBytesStay(t *testing.T) {
	d := made(t, 9)
	given, whole := roomy("123")
	before := bytes.Clone(whole)
	for _, name := range []string{"a", "a", "", "b", "c"} {
		d.Append(name, given)
	}
	all(t, d, cut("a", 1), add("a", "9"), move("a", "c"), sync(), add("c", "8"))
	d.Crash(0, 0)
	d.Fuse(0)
	d.Append("a", given)
	b, _ := d.Read("c")
	scrawl(b)
	if !bytes.Equal(whole, before) {
		t.Errorf("R2: Append: % x, before % x", whole, before)
	}
}

// TestBytesAreNotKept: R2, what was appended stays when the bytes that were handed in
// are written over: what is shown, what is synced, and what a crash leaves, whole or torn.
func TestBytesAreNotKept(t *testing.T) {
	begin := func() *disk.Disk {
		d := made(t, 99)
		b, _ := roomy("123")
		if e := d.Append("a", b); e != api.OK {
			t.Errorf("R2: Append: %d", e)
		}
		scrawl(b)
		return d
	}
	d := begin()
	holds(t, "R2: what is shown", d, map[string]string{"a": "123"})
	all(t, d, sync())
	holds(t, "R2: what is synced", d, map[string]string{"a": "123"})
	crashes(t, "R2: what was synced", d, 0, 0, 0, map[string]string{"a": "123"})
	crashes(t, "R2: what a crash leaves whole", begin(), 1, 0, 1, map[string]string{"a": "123"})
	crashes(t, "R2: what a crash leaves torn", begin(), 0, 2, 0, map[string]string{"a": "12"})
}

// TestResultsAreNew: R2, bytes and names that are told may be written over, and the
// room behind them: neither the Disk nor another answer knows of that.
func TestResultsAreNew(t *testing.T) {
	m := map[string]string{"a": "xyz12", "b": "", "c": "0"}
	scrawlAll := func(d *disk.Disk) {
		for name := range m {
			b, _ := d.Read(name)
			scrawl(b)
		}
		names := d.Names()
		names = names[:cap(names)]
		for i := range names {
			names[i] = "?"
		}
	}
	d := begun(t, 99, add("a", "xyz"), add("c", "0"), sync(), add("a", "12"), add("b", ""))
	one, _ := d.Read("a")
	names := d.Names()
	scrawlAll(d)
	holds(t, "R2: after the answers were written over", d, m)
	if string(one) != "xyz12" || !slices.Equal(names, []string{"a", "b", "c"}) {
		t.Errorf("R2: the other answers: %q %q", one, names)
	}
	crashes(t, "R2: a crash after that", d, 0, 1, 0, map[string]string{"a": "xyz1", "c": "0"})
	m = map[string]string{"a": "xyz1", "c": "0"}
	scrawlAll(d)
	all(t, d, add("a", "2"), sync())
	scrawlAll(d)
	m["a"] = "xyz12"
	crashes(t, "R2: what was synced", d, 0, 0, 0, m)
}

// TestAnswersStay: R2, what was told stays as it is, whatever the Disk does.
func TestAnswersStay(t *testing.T) {
	for _, size := range []int{0, 1, 3, 8, 100, 1000} {
		d := begun(t, 5000, add("a", letters(size)), add("b", ""))
		b, _ := d.Read("a")
		names := d.Names()
		all(t, d, add("a", "more"), cut("a", 0), add("a", "another"), add("a0", ""), move("a", "c"), drop("b"), sync())
		d.Crash(0, 0)
		all(t, d, add("c", "1"), add("a", "2"))
		if string(b) != letters(size) || !slices.Equal(names, []string{"a", "b"}) {
			t.Errorf("R2: %d bytes: %q %q", size, b, names)
		}
		// The room behind the bytes is the caller's, too.
		b, _ = d.Read("a")
		scrawl(b)
		all(t, d, add("a", "3"))
		if b, _ := d.Read("a"); string(b) != "23" {
			t.Errorf("R2: the room behind an answer: %q", b)
		}
	}
}

// TestSyncedStays: R2 and 7.5, what is done to the files that are shown does not reach
// those that are synced, though they began as the same bytes, and the other way round.
func TestSyncedStays(t *testing.T) {
	for n := range 40 {
		s := letters(n)
		begin := func() *disk.Disk {
			d := begun(t, 999, add("a", s), add("a", "12345678"), sync())
			return d
		}
		whole := map[string]string{"a": s + "12345678"}
		d := begin()
		all(t, d, cut("a", n), add("a", "QQ"), move("a", "b"), add("b", "R"), add("a", "S"))
		crashes(t, "7.5: what was synced", d, 0, 0, 0, whole)
		all(t, d, cut("a", n), add("a", "QQ"), add("a", "RRR"))
		crashes(t, "7.5: what a crash had left", d, 0, 0, 0, whole)
		all(t, d, cut("a", n), add("a", "QQQQ"))
		d.Crash(2, 0)
		all(t, d, add("a", "T"), cut("a", n), add("a", "UU"))
		crashes(t, "7.5: what a crash had left", d, 1, 0, 1, map[string]string{"a": s + "QQQQT"})
		d = begin()
		all(t, d, cut("a", n), add("a", "QQ"), sync(), add("a", "V"))
		holds(t, "7.2: what is shown after a Sync", d, map[string]string{"a": s + "QQV"})
		crashes(t, "7.5: what was synced then", d, 0, 0, 0, map[string]string{"a": s + "QQ"})
	}
}

// TestFilesAreApart: R2, no file's bytes come into another's, whatever names they had.
func TestFilesAreApart(t *testing.T) {
	d := begun(t, 999, add("a", letters(20)), cut("a", 2), move("a", "b"), add("a", "12"), add("b", "34"), add("a", "56"), add("b", "78"))
	holds(t, "7.2: after a Rename", d, map[string]string{"a": "1256", "b": "xx3478"})
	all(t, d, add("c", "cc"), move("c", "a"), add("c", "ddd"), add("a", "e"), move("b", "c"), add("c", "f"), add("b", "g"))
	holds(t, "7.2: after some", d, map[string]string{"a": "cce", "b": "g", "c": "xx3478f"})
	all(t, d, sync())
	crashes(t, "7.5: after some", d, 0, 0, 0, map[string]string{"a": "cce", "b": "g", "c": "xx3478f"})
}

// TestApart: R8, two Disks do not know of each other.
func TestApart(t *testing.T) {
	x, y := made(t, 3), made(t, 9)
	b := []byte("12")
	x.Append("a", b)
	y.Append("a", b)
	all(t, x, sync(), add("a", "3"))
	all(t, y, add("b", "45"), cut("a", 1))
	asks(t, "R8: one is full", x, add("a", "4"), api.ErrFull)
	asks(t, "R8: the other is not", y, add("a", "67"), api.OK)
	x.Room(0)
	x.Fuse(0)
	asks(t, "R8: one goes down", x, sync(), api.ErrDown)
	stands(t, "R8: one", x, 1, true)
	stands(t, "R8: the other", y, 4, false)
	all(t, y, add("c", "8"))
	holds(t, "R8: the other", y, map[string]string{"a": "167", "b": "45", "c": "8"})
	crashes(t, "R8: one", x, 0, 0, 0, map[string]string{"a": "12"})
	crashes(t, "R8: the other", y, 3, 1, 3, map[string]string{"a": "16", "b": "45"})
}
