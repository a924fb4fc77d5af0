package photo_test

import (
	"fmt"
	"testing"

	"bursar/api"
	"bursar/photo"
)

// TestExample: 11.2, what the chapter says of Save and Open, byte for byte.
func TestExample(t *testing.T) {
	d := made(t, nil)
	misses(t, "11.2: an empty disk", d)
	lies(t, "11.2: an empty disk", d, nil)
	waits(t, "11.2: an empty disk", d, 0)
	saves(t, "11.2: the example", d, snap(4, 2, 14, "ab"), api.OK)
	lies(t, "11.2: the example", d, files{old: framed("\x04\x02\x0e\x02ab")})
	lies(t, "11.2: the example", d, files{old: "\x06\x00\x00\x00" + framed("\x04\x02\x0e\x02ab")[4:8] + "\x04\x02\x0e\x02ab"})
	waits(t, "11.2: no Sync", d, 2)
	opens(t, "11.2: the example", d, snap(4, 2, 14, "ab"))
	waits(t, "11.2: nothing is mended", d, 2)
	saves(t, "11.2: long numbers", d, snap(300, mostNumber, 254, ""), api.OK)
	lies(t, "11.2: long numbers", d, files{old: framed("\xac\x02\xff\xff\xff\xff\xff\xff\xff\x7f\xfe\x00")})
	waits(t, "11.2: no Sync", d, 4)

	d = made(t, nil)
	saves(t, "11.3: the other example", d, snap(4, 2, 14, "ab"), api.OK)
	d.Sync()
	saves(t, "11.3: the other example", d, snap(9, 3, 6, "xyz"), api.OK)
	d.Crash(1, 0)
	opens(t, "11.3: the other example", d, snap(4, 2, 14, "ab"))
	lies(t, "11.3: the other example", d, files{old: framed("\x04\x02\x0e\x02ab")})
}

// TestSave: 11.2, each snapshot that may be, as the first, behind another, and behind a
// file that holds none.
func TestSave(t *testing.T) {
	for _, s := range rights() {
		for _, there := range []string{"none", "", "x", file(snap(9, 3, 6, "xyz")), file(s), file(s) + "x"} {
			what := fmt.Sprintf("11.2: %s of %d bytes behind % .20x", short(s), len(s.Data), there)
			m := files{"other": "x"}
			if there != "none" {
				m[old] = there
			}
			d := synced(t, m)
			saves(t, what, d, s, api.OK)
			lies(t, what, d, files{"other": "x", old: file(s)})
			waits(t, what, d, 2)
			opens(t, what, d, s)
			opens(t, what, d, s)
			waits(t, what, d, 2)
		}
	}
}

// TestSizes: 11.2, Data of each of many lengths, up to just MaxImage bytes.
func TestSizes(t *testing.T) {
	d := made(t, nil)
	for _, n := range []int{0, 1, 2, 3, 126, 127, 128, 129, 255, 256, 257, 16383, 16384, 16385, mostData - 1, mostData} {
		what := fmt.Sprintf("11.2: Data of %d bytes", n)
		s := snap(4, 2, 14, filled(n))
		saves(t, what, d, s, api.OK)
		opens(t, what, d, s)
		lies(t, what, d, files{old: file(s)})
		saves(t, what+" and one more than may be", d, snap(5, 2, 14, filled(mostData+1)), api.ErrArg)
		opens(t, what, d, s)
	}
	s := snap(4, 2, 14, "")
	s.Data = nil
	saves(t, "R2: Data of nil", d, s, api.OK)
	opens(t, "R2: Data of nil", d, s)
	lies(t, "R2: Data of nil", d, files{old: framed("\x04\x02\x0e\x00")})
}

// TestEveryByte: 11.2, Data is any bytes, those that begin a frame as well.
func TestEveryByte(t *testing.T) {
	d := made(t, nil)
	var all []byte
	for i := range 256 {
		all = append(all, byte(i))
	}
	for _, data := range []string{string(all), "\x00", "\x00\x00\x00\x00\x00\x00\x00\x00", file(snap(5, 2, 14, "x")), "\xff\xff\xff\xff\xff\xff\xff\xff\xff", "snap", "\u20ac\n\r\"\\"} {
		saves(t, "11.2: any bytes", d, snap(4, 2, 14, data), api.OK)
		opens(t, "11.2: any bytes", d, snap(4, 2, 14, data))
	}
}

// TestNewThere: 11.2, a file snap.new that is there already goes, whatever lies in it,
// by one operation more.
func TestNewThere(t *testing.T) {
	s := snap(5, 1, 2, "xyz")
	for _, left := range lefts() {
		what := fmt.Sprintf("11.2: Save, snap.new of %d bytes", len(left))
		for _, m := range []files{{fresh: left}, {fresh: left, old: ""}, {fresh: left, old: "x"}, {fresh: left, old: file(snap(4, 2, 14, "ab"))}} {
			d := synced(t, m)
			saves(t, what, d, s, api.OK)
			lies(t, what, d, files{old: file(s)})
			waits(t, what, d, 3)
			opens(t, what, d, s)
			waits(t, what, d, 3)
		}
	}
}

// TestSaveArgs: 11.2, no disk, or a snapshot that is not right: ErrArg, the disk is not
// asked for anything, and what is on it stays, snap.new as well.
func TestSaveArgs(t *testing.T) {
	for _, s := range append(wrongs(), snap(4, 2, 14, "ab"), snap(1, 1, 2, "")) {
		saves(t, "11.2: no disk", nil, s, api.ErrArg)
	}
	for _, m := range []files{nil, {old: ""}, {old: "x"}, {old: file(snap(9, 3, 6, "xyz"))}, {fresh: file(snap(8, 3, 6, ""))}, {old: file(snap(9, 3, 6, "xyz")), fresh: "x"}} {
		for _, s := range wrongs() {
			d := synced(t, m)
			d.Fuse(0)
			saves(t, "11.2: wrong", d, s, api.ErrArg)
			if d.Down() {
				t.Errorf("11.2: Save(%s) asked for an operation of the disk", short(s))
			}
			d.Fuse(-1)
			waits(t, "R3: after ErrArg", d, 0)
			lies(t, "R3: after ErrArg", d, m)
			finds(t, "R3: after ErrArg", d, m)
		}
	}
}

// TestSaveOnly: 11.2, the last snapshot is the one, also where its Index or its Term is
// less, it has fewer bytes, or it is the same.
func TestSaveOnly(t *testing.T) {
	d := made(t, nil)
	for i, s := range row(snap(9, 3, 6, "xyz"), snap(2, 1, 14, ""), snap(2, 1, 14, ""), snap(1, 1, 2, filled(999)), snap(9, 1, 254, "a"), snap(mostNumber, mostNumber, 2, "b"), snap(1, 1, 2, "")) {
		saves(t, "11.2: any snapshot", d, s, api.OK)
		opens(t, "11.2: any snapshot", d, s)
		lies(t, "11.2: any snapshot", d, files{old: file(s)})
		waits(t, "11.2: any snapshot", d, 2*i+2)
	}
	for _, s := range run(1, 300) {
		saves(t, "11.2: one by one", d, s, api.OK)
		opens(t, "11.2: one by one", d, s)
	}
	lies(t, "11.2: one by one", d, files{old: file(run(300, 300)[0])})
	if s, ok, e := photo.Open(d); !ok || e != api.OK || s.Base.Index != 300 || d.Pending() != 614 {
		t.Errorf("11.2: one by one: %s %v %d, %d operations", short(s), ok, e, d.Pending())
	}
}
