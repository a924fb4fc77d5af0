package disk_test

import (
	"fmt"
	"maps"
	"math"
	"testing"

	"bursar/api"
)

// story is some synced calls, and some that wait behind them.
type story struct{ synced, waiting []call }

// stories are some with each kind of call at each place.
func stories() []story {
	base := row(add("a", "xyz"), add("b", "BB"), add("e", ""))
	return []story{
		{nil, nil},
		{base, nil},
		{nil, row(add("a", "1234567"))},
		{nil, row(add("a", ""))},
		{nil, row(add("a", ""), add("a", "123"), add("a", ""), add("b", "45"))},
		{base, row(add("a", "12"), drop("a"))},
		{base, row(drop("a"), add("a", "12"), cut("a", 1), add("a", "345"))},
		{base, row(cut("a", 1), add("a", "456"), cut("a", 0), add("a", "7"), cut("a", 1))},
		{base, row(move("a", "b"), add("b", "123"), add("a", "45"), move("b", "a"), add("a", "6"))},
		{base, row(move("a", "a"), cut("a", 3), add("a", ""), move("a", "c"), add("c", "1"), drop("c"))},
		{base, row(add("c", "123"), move("c", "a"), add("c", "4567"), move("c", "a"), drop("b"), drop("e"))},
		{base, row(add("e", "12"), add("f", "34"), add("e", "56"), add("f", "78"))},
		{base, row(drop("e"), drop("b"), drop("a"), add("a", ""), add("b", "1"), move("b", "e"), cut("e", 0))},
	}
}

// states answers the files before and after each call that waits.
func (s story) states() []map[string]string {
	m := map[string]string{}
	for _, c := range s.synced {
		m = after(m, c)
	}
	list := []map[string]string{m}
	for _, c := range s.waiting {
		m = after(m, c)
		list = append(list, m)
	}
	return list
}

// part answers the files after t bytes of the k-th call that waits, where it has more.
func (s story) part(k, t int) map[string]string {
	m := s.states()[k]
	if t == 0 {
		return m
	}
	c := s.waiting[k]
	c.data = c.data[:t]
	return after(m, c)
}

// TestCrash: 7.4 and 7.5, each number of operations that a crash may keep, and each part
// of the next one, of a Disk that is up and of one that is down.
func TestCrash(t *testing.T) {
	for i, s := range stories() {
		for k := range len(s.waiting) + 1 {
			size := 1
			if k < len(s.waiting) {
				size = max(1, len(s.waiting[k].data))
			}
			for torn := range size {
				for _, down := range []bool{false, true} {
					d := begun(t, 99, s.synced...)
					all(t, d, sync())
					all(t, d, s.waiting...)
					if down {
						d.Fuse(0)
						asks(t, "7.2", d, sync(), api.ErrDown)
					}
					what := fmt.Sprintf("7.4: story %d, %d kept, %d of %d bytes of the next one, down %v", i, k, torn, size, down)
					crashes(t, what, d, k, torn, k, s.part(k, torn))
				}
			}
		}
	}
}

// TestCrashNumbers: 7.4, numbers that are below 0, or beyond what waits, come round.
func TestCrashNumbers(t *testing.T) {
	s := story{row(add("a", "xyz")), row(add("a", "12345"), cut("a", 1), add("b", "678"))}
	turns := []struct{ n, of4, of5, of3 int }{
		{0, 0, 0, 0}, {1, 1, 1, 1}, {2, 2, 2, 2}, {3, 3, 3, 0}, {4, 0, 4, 1}, {5, 1, 0, 2}, {6, 2, 1, 0}, {7, 3, 2, 1}, {100, 0, 0, 1},
		{-1, 3, 4, 2}, {-2, 2, 3, 1}, {-3, 1, 2, 0}, {-4, 0, 1, 2}, {-5, 3, 0, 1}, {-6, 2, 4, 0}, {-7, 1, 3, 2}, {-100, 0, 0, 2},
		{math.MaxInt, 3, 2, 1}, {math.MinInt, 0, 2, 1}, {math.MinInt + 1, 1, 3, 2}, {math.MaxInt32, 3, 2, 1}, {math.MinInt32, 0, 2, 1},
	}
	for _, keep := range turns {
		for _, torn := range turns {
			// The next one may be torn where it appends five bytes, or three.
			part := []int{torn.of5, 0, torn.of3, 0}[keep.of4]
			d := begun(t, 99, s.synced...)
			all(t, d, sync())
			all(t, d, s.waiting...)
			what := fmt.Sprintf("7.4: Crash(%d, %d)", keep.n, torn.n)
			crashes(t, what, d, keep.n, torn.n, keep.of4, s.part(keep.of4, part))
		}
	}
}

// TestCrashOfNone: 7.4, where nothing is pending, any numbers leave all as it was.
func TestCrashOfNone(t *testing.T) {
	for _, n := range []int{0, 1, 2, -1, -2, math.MaxInt, math.MinInt} {
		crashes(t, "7.4: of an empty one", made(t, 0), n, n, 0, nil)
		d := begun(t, 9, add("a", "123"), sync())
		crashes(t, "7.4: with nothing pending", d, n, n, 0, map[string]string{"a": "123"})
	}
}

// TestCrashMakesNoFile: 7.4, an Append of which no byte remains makes no file, as it
// has none or as none is kept; the whole one does, and so does one byte.
func TestCrashMakesNoFile(t *testing.T) {
	for torn := range 7 {
		crashes(t, "7.4: no byte to append", begun(t, 9, add("a", "")), 0, torn, 0, nil)
		crashes(t, "7.4: all of no bytes", begun(t, 9, add("a", "")), 1, torn, 1, map[string]string{"a": ""})
	}
	for torn, left := range []map[string]string{nil, {"a": "1"}, {"a": "12"}, nil, {"a": "1"}} {
		crashes(t, "7.4: a new file", begun(t, 9, add("a", "123")), 0, torn, 0, left)
	}
}

// TestCrashOthers: 7.4 and 7.5, what comes behind the torn one is lost, even in files
// that have nothing to do with it, and even what is appended.
func TestCrashOthers(t *testing.T) {
	d := begun(t, 99, add("a", "1"), add("b", "2"), sync(), add("a", "345"), add("c", "6"), drop("b"), add("a", "7"))
	crashes(t, "7.5: a prefix", d, 0, 2, 0, map[string]string{"a": "134", "b": "2"})
	d = begun(t, 99, add("a", "1"), add("b", "2"), sync(), drop("b"), add("a", "345"), add("c", "6"))
	crashes(t, "7.5: a prefix", d, 0, 2, 0, map[string]string{"a": "1", "b": "2"})
}

// TestCrashRoom: 7.4, the room is not asked, neither for what is whole nor for a part.
func TestCrashRoom(t *testing.T) {
	d := begun(t, 9, add("a", "12345"), sync(), cut("a", 1), add("a", "6789"))
	d.Room(0)
	crashes(t, "7.4: a part without room", d, 1, 2, 1, map[string]string{"a": "167"})
	d.Room(9)
	all(t, d, add("b", "123456"))
	d.Room(0)
	crashes(t, "7.4: all without room", d, 1, 0, 1, map[string]string{"a": "167", "b": "123456"})
	asks(t, "7.4: the room is still what it was", d, add("a", ""), api.ErrFull)
	d = begun(t, 9, add("a", "123456789"), sync(), drop("a"), add("b", "abc"))
	d.Room(3)
	crashes(t, "7.4: what is back without room", d, 0, 0, 0, map[string]string{"a": "123456789"})
}

// TestGoesOn: 7.4, after a crash it goes on like any other, again and again.
func TestGoesOn(t *testing.T) {
	d, m := begun(t, mostRoom, add("a", "")), map[string]string{"a": ""}
	all(t, d, sync())
	for i := range 40 {
		all(t, d, add("a", "xy"), add("b", "12"), drop("b"))
		holds(t, "7.4: it goes on", d, map[string]string{"a": m["a"] + "xy"})
		d.Crash(i%4, 1)
		switch i % 4 {
		case 0:
			m["a"] += "x"
		case 1:
			m["a"] += "xy"
			m["b"] += "1"
		case 2:
			m["a"] += "xy"
			m["b"] += "12"
		case 3:
			m["a"] += "xy"
			delete(m, "b")
		}
		holds(t, "7.4: it goes on", d, m)
		stands(t, "7.4: it goes on", d, 0, false)
	}
}

// TestPrefixes: 7.5, what a crash leaves is what it left of the calls up to there alone.
func TestPrefixes(t *testing.T) {
	for i, s := range stories() {
		for k := range len(s.waiting) + 1 {
			d := begun(t, 99, s.synced...)
			all(t, d, sync())
			all(t, d, s.waiting...)
			d.Crash(k, 0)
			other := begun(t, 99, s.synced...)
			all(t, other, s.waiting[:k]...)
			if !maps.Equal(shown(d), shown(other)) {
				t.Errorf("7.5: story %d, %d kept: %q, not %q", i, k, shown(d), shown(other))
			}
		}
	}
}
