package disk_test

import (
	"math"
	"testing"

	"bursar/api"
	"bursar/disk"
)

// TestAppend: 7.2, bytes come behind those that are there, and a file is made where
// there is none, also for no bytes.
func TestAppend(t *testing.T) {
	d, m := made(t, 9), map[string]string{}
	for i, c := range row(add("a", "xyz"), add("a", ""), add("b", ""), add("a", "12"), add("b", "\x00\xff"), add("c", ""), add("c", ""), add("b", "45")) {
		asks(t, "7.2", d, c, api.OK)
		m[c.name] += c.data
		holds(t, "7.2: Append", d, m)
		stands(t, "7.2: Append", d, i+1, false)
	}
	if e := d.Append("d", nil); e != api.OK {
		t.Errorf("7.2: Append of nil: %d", e)
	}
	m["d"] = ""
	holds(t, "7.2: Append of nil", d, m)
	asks(t, "7.2: one byte too many", d, add("a", "1"), api.ErrFull)
	asks(t, "7.2: one byte too many", d, add("e", "1"), api.ErrFull)
	holds(t, "R3: what had no room", d, m)
	stands(t, "R3: what had no room", d, 9, false)
}

// TestExamples: the chapter's examples.
func TestExamples(t *testing.T) {
	d := begun(t, 9, add("a", "xyz"))
	asks(t, "7.2: ten bytes", d, add("b", "1234567"), api.ErrFull)
	runs := []struct {
		keep, torn, k int
		left          map[string]string
	}{{1, 0, 1, map[string]string{"a": "xyz12"}}, {0, 1, 0, map[string]string{"a": "xyz1"}}, {3, 5, 0, map[string]string{"a": "xyz1"}}}
	for _, r := range runs {
		d := begun(t, 9, add("a", "xyz"), sync(), add("a", "12"), drop("a"))
		crashes(t, "7.4: the example", d, r.keep, r.torn, r.k, r.left)
	}
	d = made(t, 9)
	d.Fuse(1)
	asks(t, "7.3: the example", d, add("b", "1"), api.OK)
	asks(t, "7.3: the example", d, add("b", "2"), api.ErrDown)
	stands(t, "7.3: the example", d, 1, true)
	holds(t, "7.3: the example", d, nil)
}

// TestTruncate: 7.2, each size that may be, some that may not, and bytes that come then.
func TestTruncate(t *testing.T) {
	const s = "abcdef"
	for n := range len(s) + 1 {
		for size := range n + 1 {
			d := begun(t, 99, add("a", s[:n]), add("b", "other"), cut("a", size))
			holds(t, "7.2: Truncate", d, map[string]string{"a": s[:size], "b": "other"})
			stands(t, "7.2: Truncate", d, 3, false)
			all(t, d, add("a", "XY"))
			holds(t, "7.2: Truncate, then Append", d, map[string]string{"a": s[:size] + "XY", "b": "other"})
		}
		d := begun(t, 99, add("a", s[:n]), add("b", "a longer one"), cut("a", n))
		for _, size := range []int{-1, -2, -n - 1, math.MinInt, math.MinInt32, n + 1, n + 2, 2*n + 1, 256 + n, 1<<32 + n, math.MaxInt} {
			asks(t, "7.2: a size that may not be", d, cut("a", size), api.ErrArg)
			asks(t, "7.2: no file ahead of a wrong size", d, cut("c", size), api.ErrNone)
		}
		asks(t, "7.2: there is none", d, cut("c", 0), api.ErrNone)
		holds(t, "R3: a size that may not be", d, map[string]string{"a": s[:n], "b": "a longer one"})
		stands(t, "R3: a size that may not be", d, 3, false)
	}
}

// TestRename: 7.2, onto a name that is free, onto another file, and onto itself.
func TestRename(t *testing.T) {
	m := func(s ...string) map[string]string {
		files := map[string]string{}
		for i := 0; i < len(s); i += 2 {
			files[s[i]] = s[i+1]
		}
		return files
	}
	steps := []struct {
		from, to string
		left     map[string]string
	}{
		{"a", "c", m("c", "1", "b", "22")},
		{"c", "c", m("c", "1", "b", "22")},
		{"b", "b", m("c", "1", "b", "22")},
		{"b", "c", m("c", "22")},
		{"c", "c", m("c", "22")},
		{"c", "a", m("a", "22")},
	}
	d := begun(t, 9, add("a", "1"), add("b", "22"))
	for i, s := range steps {
		asks(t, "7.2", d, move(s.from, s.to), api.OK)
		holds(t, "7.2: Rename of "+s.from+" to "+s.to, d, s.left)
		stands(t, "7.2: Rename", d, 3+i, false)
	}
	all(t, d, add("empty", ""), move("empty", "a"))
	holds(t, "7.2: an empty one onto another", d, m("a", ""))
	all(t, d, add("b", "3"), move("b", "a"), add("a", "4"), add("b", "5"))
	holds(t, "7.2: both names go on", d, m("a", "34", "b", "5"))
}

// TestRenameErrors: 7.2, in their order: a wrong name to rename to, no file to rename.
func TestRenameErrors(t *testing.T) {
	d := begun(t, 9, add("a", "1"), add("b", "22"))
	long := name(mostName + 1)
	for _, to := range []string{"", long} {
		for _, from := range []string{"a", "c", "", long} {
			asks(t, "7.2: a wrong name ahead of no file", d, move(from, to), api.ErrArg)
		}
	}
	for _, to := range []string{"a", "c", name(mostName)} {
		for _, from := range []string{"c", "", long} {
			asks(t, "7.2: no such file", d, move(from, to), api.ErrNone)
		}
	}
	holds(t, "R3: Rename that fails", d, map[string]string{"a": "1", "b": "22"})
	stands(t, "R3: Rename that fails", d, 2, false)
}

// TestRemove: 7.2, a file is gone, and once; another of its name begins anew.
func TestRemove(t *testing.T) {
	d := begun(t, 9, add("a", "1"), add("b", "22"), add("c", ""), drop("a"))
	holds(t, "7.2: Remove", d, map[string]string{"b": "22", "c": ""})
	for _, s := range []string{"a", "", "d", name(mostName + 1)} {
		asks(t, "7.2: there is none", d, drop(s), api.ErrNone)
	}
	stands(t, "R3: Remove that fails", d, 4, false)
	all(t, d, drop("c"), add("a", "3"), drop("b"))
	holds(t, "7.2: Remove", d, map[string]string{"a": "3"})
	asks(t, "7.2: Truncate of what was removed", d, cut("b", 0), api.ErrNone)
	asks(t, "7.2: Rename of what was removed", d, move("b", "d"), api.ErrNone)
	all(t, d, sync(), drop("a"))
	holds(t, "7.2: Remove of what was synced", d, nil)
}

// TestPending: 7.1 and 7.2, each operation that goes well waits for a Sync, even one
// that changes nothing, and none that fails.
func TestPending(t *testing.T) {
	d := made(t, 9)
	good := row(add("a", ""), add("a", ""), add("a", "123"), cut("a", 3), cut("a", 2), move("a", "a"), move("a", "b"), add("c", "1"), move("b", "c"), drop("c"))
	for range 3 {
		for i, c := range good {
			stands(t, "7.2: what waits", d, i, false)
			asks(t, "7.2", d, c, api.OK)
			for _, bad := range row(add("", "1"), add("a", letters(10)), cut("no", 0), cut("a", 99), move("no", "a"), move("a", ""), drop("no")) {
				if bad.on(d) == api.OK {
					t.Errorf("7.2: %s of %q: OK", bad.what, bad.name)
				}
			}
			stands(t, "7.2: what waits", d, i+1, false)
		}
		all(t, d, sync())
		stands(t, "7.2: after a Sync", d, 0, false)
		all(t, d, sync())
		stands(t, "7.2: after another Sync", d, 0, false)
	}
}

// TestSync: 7.2 and 7.5, what was synced is shown as before, and outlives a crash.
func TestSync(t *testing.T) {
	d, m := made(t, 99), map[string]string{}
	for _, c := range row(add("a", "xyz"), add("b", ""), add("a", "12"), cut("a", 4), move("a", "c"), add("a", "new"), move("c", "a"), drop("b"), add("b", "back")) {
		all(t, d, c)
		m = after(m, c)
		all(t, d, sync())
		holds(t, "7.2: after a Sync", d, m)
		crashes(t, "7.5: after a Sync", d, 7, 7, 0, m)
	}
}

// fails are calls that each fail on a Disk with the room 9 and the files a (123) and
// b (empty), and how.
var fails = []struct {
	of  call
	why api.Errno
}{
	{add("", "1"), api.ErrArg},
	{add("", letters(99)), api.ErrArg},
	{add(name(mostName+1), ""), api.ErrArg},
	{add("a", letters(7)), api.ErrFull},
	{add("c", letters(7)), api.ErrFull},
	{cut("c", 0), api.ErrNone},
	{cut("c", -1), api.ErrNone},
	{cut("", 0), api.ErrNone},
	{cut("a", -1), api.ErrArg},
	{cut("a", 4), api.ErrArg},
	{cut("b", 1), api.ErrArg},
	{move("a", ""), api.ErrArg},
	{move("c", name(mostName+1)), api.ErrArg},
	{move("c", "a"), api.ErrNone},
	{move("", "a"), api.ErrNone},
	{drop("c"), api.ErrNone},
	{drop(""), api.ErrNone},
}

// TestErrorsChangeNothing: R3, a call that fails leaves all as it was: what is shown,
// what is pending, what a crash leaves, and the room.
func TestErrorsChangeNothing(t *testing.T) {
	begin := func() *disk.Disk {
		return begun(t, 9, add("a", "12"), sync(), add("a", "3"), add("b", ""))
	}
	whole := map[string]string{"a": "123", "b": ""}
	left := []map[string]string{{"a": "12"}, {"a": "123"}, whole}
	for _, f := range fails {
		for k, m := range left {
			d := begin()
			asks(t, "7.2", d, f.of, f.why)
			holds(t, "R3: "+f.of.what, d, whole)
			stands(t, "R3: "+f.of.what, d, 2, false)
			crashes(t, "R3: a crash after "+f.of.what, d, k, 0, k, m)
		}
		d := begin()
		asks(t, "7.2", d, f.of, f.why)
		asks(t, "R3: no room was lost", d, add("c", letters(6)), api.OK)
		asks(t, "R3: no room was won", d, add("c", "1"), api.ErrFull)
	}
}
