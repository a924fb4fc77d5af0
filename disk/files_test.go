package disk_test

import (
	"fmt"
	"math"
	"testing"

	"bursar/api"
	"bursar/disk"
)

// wrongRooms are some that no Disk may have, of which some come round to what may be.
var wrongRooms = []int{-1, -2, -mostRoom, math.MinInt32, math.MinInt, math.MinInt + 1, mostRoom + 1, mostRoom + 2, 1 << 21, 1<<32 + 1, 1<<32 + mostRoom, math.MaxInt32, math.MaxInt}

// TestNew: 7.1, as much room as a Disk may be made for, and nothing on it.
func TestNew(t *testing.T) {
	for _, room := range []int{0, 1, 2, 9, 1 << 10, mostRoom - 1, mostRoom} {
		d := made(t, room)
		holds(t, "7.1: a new one", d, nil)
		stands(t, "7.1: a new one", d, 0, false)
		asks(t, "7.1: more than there is room for", d, add("a", letters(room+1)), api.ErrFull)
		asks(t, "7.1: all there is room for", d, add("a", letters(room)), api.OK)
		holds(t, "7.1: a full one", d, map[string]string{"a": letters(room)})
	}
}

// TestNewErrors: 7.1, as much room as none may be made for.
func TestNewErrors(t *testing.T) {
	for _, room := range wrongRooms {
		if d, e := disk.New(room); d != nil || e != api.ErrArg {
			t.Errorf("7.1: New(%d): %v %d", room, d, e)
		}
	}
}

// TestRoom: 7.1, another room holds from then on, one that may not be does not, and
// none changes what is there.
func TestRoom(t *testing.T) {
	m := map[string]string{"a": "12345"}
	for _, wrong := range wrongRooms {
		d := begun(t, 5, add("a", "12345"))
		if e := d.Room(wrong); e != api.ErrArg {
			t.Errorf("7.1: Room(%d): %d", wrong, e)
		}
		asks(t, "R3: a room that was refused", d, add("a", "6"), api.ErrFull)
		asks(t, "R3: a room that was refused", d, add("a", ""), api.OK)
		holds(t, "R3: a room that was refused", d, m)
	}
	for _, room := range []int{0, 1, 4, 5, 6, 9, mostRoom} {
		d := begun(t, 5, add("a", "12345"))
		if e := d.Room(room); e != api.OK {
			t.Errorf("7.1: Room(%d): %d", room, e)
		}
		holds(t, "7.1: with another room", d, m)
		stands(t, "7.1: with another room", d, 1, false)
		asks(t, "7.1: one byte too many", d, add("b", letters(max(room-4, 0))), api.ErrFull)
		if room >= 5 {
			asks(t, "7.1: just enough", d, add("b", letters(room-5)), api.OK)
		}
	}
}

// TestRoomStays: 7.1, neither a Sync nor a crash changes the room.
func TestRoomStays(t *testing.T) {
	d := begun(t, 5, add("a", "12345"))
	d.Room(7)
	all(t, d, sync(), add("a", "67"), sync())
	d.Crash(0, 0)
	asks(t, "7.4: the room of before", d, add("a", "8"), api.ErrFull)
	all(t, d, cut("a", 0), add("b", "1234567"))
}

// TestRoomWhileDown: 7.1, Room works while a Disk is down, and refuses what it refuses.
func TestRoomWhileDown(t *testing.T) {
	d := begun(t, 3, add("a", "123"), sync())
	d.Fuse(0)
	asks(t, "7.2: down", d, sync(), api.ErrDown)
	for _, wrong := range wrongRooms {
		if e := d.Room(wrong); e != api.ErrArg {
			t.Errorf("7.1: Room(%d) while it is down: %d", wrong, e)
		}
	}
	if e := d.Room(4); e != api.OK {
		t.Errorf("7.1: Room(4) while it is down: %d", e)
	}
	holds(t, "7.1: Room while it is down", d, nil)
	stands(t, "7.1: Room while it is down", d, 0, true)
	d.Crash(0, 0)
	asks(t, "7.1: the room that was given while it was down", d, add("a", "45"), api.ErrFull)
	asks(t, "7.1: the room that was given while it was down", d, add("a", "4"), api.OK)
}

// TestRoomOfAll: 7.2, it is the bytes of all files that count, and each way to lessen
// them gives room back.
func TestRoomOfAll(t *testing.T) {
	ways := []struct {
		of   call
		room int
	}{{drop("a"), 3}, {drop("b"), 4}, {cut("a", 1), 2}, {cut("a", 3), 0}, {move("a", "b"), 4}, {move("b", "a"), 3}, {move("a", "c"), 0}, {move("a", "a"), 0}, {add("a", ""), 0}, {add("c", ""), 0}, {sync(), 0}}
	for _, w := range ways {
		for _, room := range []int{7, 9} {
			d := begun(t, room, add("a", "123"), add("b", "4567"))
			asks(t, "7.2: full", d, add("a", letters(room-6)), api.ErrFull)
			asks(t, "7.2: full", d, add("c", letters(room-6)), api.ErrFull)
			all(t, d, w.of)
			free := w.room + room - 7
			what := fmt.Sprintf("7.2: after %s of %q", w.of.what, w.of.name)
			asks(t, what, d, add("d", letters(free+1)), api.ErrFull)
			asks(t, what, d, add("d", letters(free)), api.OK)
			asks(t, what, d, add("d", "1"), api.ErrFull)
			if d.Used() != room {
				t.Errorf("%s: Used %d, not %d", what, d.Used(), room)
			}
		}
	}
}

// TestTooMuchUsed: 7.2, where more is used than there is room, not even no bytes have
// a place, in an old file or a new one; all else goes on.
func TestTooMuchUsed(t *testing.T) {
	d := begun(t, 9, add("a", "12345"), add("b", ""))
	d.Room(4)
	for _, name := range []string{"a", "b", "c"} {
		asks(t, "7.2: more used than room", d, add(name, ""), api.ErrFull)
		asks(t, "7.2: more used than room", d, add(name, "1"), api.ErrFull)
	}
	asks(t, "7.2: more used than room", d, add("", ""), api.ErrArg)
	all(t, d, move("a", "c"), cut("c", 5), cut("c", 4), add("a", ""), drop("b"), sync())
	holds(t, "7.2: more used than room", d, map[string]string{"c": "1234", "a": ""})
}

// TestNames: 7.1, names of each length and of any bytes, for Append and for Rename.
func TestNames(t *testing.T) {
	rest := []string{"a\x00b", "\x00", "\xff\xfe", "é", "漢字かなカナ"[:15], "A b/c.d", ".", "..", "snap.new", "a"}
	m := map[string]string{"other": "1"}
	d := begun(t, mostRoom, add("other", "1"))
	for n := 1; n <= mostName; n++ {
		rest = append(rest, name(n))
	}
	for _, s := range rest {
		all(t, d, add(s, "<"+s+">"))
		m[s] = "<" + s + ">"
		holds(t, "7.1: a name", d, m)
	}
	for _, s := range rest {
		all(t, d, move("other", s), move(s, "other"))
		m["other"] = "1"
		delete(m, s)
		holds(t, "7.1: a name to rename to", d, m)
	}
	for _, n := range []int{0, mostName + 1, mostName + 2, 2 * mostName, 256 + 1, 1<<16 + 1} {
		asks(t, "7.1: a name that may not be", d, add(name(n), "1"), api.ErrArg)
		asks(t, "7.1: a name that may not be", d, move("other", name(n)), api.ErrArg)
		asks(t, "R5: a name that no file has", d, cut(name(n), 0), api.ErrNone)
		asks(t, "R5: a name that no file has", d, move(name(n), "x"), api.ErrNone)
		asks(t, "R5: a name that no file has", d, drop(name(n)), api.ErrNone)
		holds(t, "R3: a name that may not be", d, m)
	}
	// Seventeen bytes, though fewer letters.
	asks(t, "7.1: it is bytes that count", d, add("ééééééééé"[:17], ""), api.ErrArg)
	asks(t, "7.1: it is bytes that count", d, add("éééééééé", ""), api.OK)
}

// many answers a Disk with so many files, and their names by their bytes.
func many(t *testing.T, n int) (*disk.Disk, map[string]string) {
	t.Helper()
	d, m := made(t, mostRoom), map[string]string{}
	for i := range n {
		// Their order is not the one in which they come.
		s := fmt.Sprintf("f%03d", i*37%101)
		m[s] = s[:i%4]
		all(t, d, add(s, m[s]))
	}
	return d, m
}

// TestFiles: 7.1, as many files as there may be and no more, with bytes or without.
func TestFiles(t *testing.T) {
	for n := range mostFiles {
		d, m := many(t, n)
		holds(t, "7.1: so many files", d, m)
		asks(t, "7.1: one more file", d, add("more", ""), api.OK)
	}
	d, m := many(t, mostFiles)
	holds(t, "7.1: all files that may be", d, m)
	asks(t, "7.1: beyond all that may be", d, add("more", ""), api.ErrFull)
	asks(t, "7.1: beyond all that may be", d, add("more", "1"), api.ErrFull)
	asks(t, "7.2: a wrong name ahead of no room", d, add("", "1"), api.ErrArg)
	holds(t, "R3: beyond all that may be", d, m)
	stands(t, "R3: beyond all that may be", d, mostFiles, false)
	all(t, d, add("f000", "1"), add("f037", ""), move("f000", "g"), move("g", "f000"), move("f000", "f000"), cut("f000", 0), sync())
	asks(t, "7.1: a Rename makes no place", d, add("more", ""), api.ErrFull)
	all(t, d, move("f000", "f037"), add("more", "1"))
	asks(t, "7.1: one place, once", d, add("even more", ""), api.ErrFull)
	all(t, d, drop("more"), add("even more", ""))
	asks(t, "7.1: one place, once", d, add("more", ""), api.ErrFull)
}

// TestFilesAfterCrash: 7.1 and 7.4, it is the files that a crash left which count.
func TestFilesAfterCrash(t *testing.T) {
	d, m := many(t, mostFiles)
	all(t, d, sync(), drop("f000"))
	crashes(t, "7.4: all files that may be", d, 0, 0, 0, m)
	asks(t, "7.1: all files are back", d, add("more", ""), api.ErrFull)
	all(t, d, drop("f000"))
	d.Crash(1, 0)
	all(t, d, add("more", ""))
	asks(t, "7.1: one place, once", d, add("even more", ""), api.ErrFull)
}

// TestOrder: 7.1 and R4, Names are in ascending order of their bytes, in whichever
// order the files came, and after they got them by Rename.
func TestOrder(t *testing.T) {
	rising := []string{"\x00", "A", "AA", "B", "Z", "a", "a\x00", "aa", "ab", "b", "é", "\xff"}
	for turn := range len(rising) {
		d, e := made(t, 99), made(t, 99)
		m := map[string]string{}
		for i := range rising {
			s := rising[(i*5+turn)%len(rising)]
			all(t, d, add(s, s))
			all(t, e, add("new", s), move("new", s))
			m[s] = s
		}
		for range 5 {
			holds(t, "R4: in order", d, m)
			holds(t, "R4: in order", e, m)
		}
	}
}
