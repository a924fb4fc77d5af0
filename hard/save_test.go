package hard_test

import (
	"fmt"
	"slices"
	"strings"
	"testing"

	"bursar/api"
	"bursar/hard"
)

// TestExample: 10.2, what the chapter says of Save and Open, byte for byte.
func TestExample(t *testing.T) {
	d := made(t, nil)
	opens(t, "10.2: an empty disk", d, value(0, 0))
	lies(t, "10.2: an empty disk", d, nil)
	savesAll(t, "10.2: the example", d, row(value(3, 1), value(4, 0)))
	lies(t, "10.2: the example", d, files{old: framed("\x03\x01") + framed("\x04\x00")})
	lies(t, "10.2: the example", d, files{old: "\x02\x00\x00\x00" + framed("\x03\x01")[4:8] + "\x03\x01" + "\x02\x00\x00\x00" + framed("\x04\x00")[4:8] + "\x04\x00"})
	waits(t, "10.2: no Sync", d, 2)
	opens(t, "10.2: the example", d, value(4, 0))
	waits(t, "10.2: nothing is mended", d, 2)

	d = made(t, nil)
	saves(t, "10.2: the other example", d, value(3, 1), api.OK)
	d.Sync()
	saves(t, "10.2: the other example", d, value(4, 2), api.OK)
	d.Crash(0, 3)
	opens(t, "10.2: the other example", d, value(3, 1))
	lies(t, "10.2: the other example", d, files{old: framed("\x03\x01")})
}

// TestSave: 10.2, each value that may be, as the first and behind another.
func TestSave(t *testing.T) {
	for _, term := range rightTerms() {
		for _, vote := range rightVotes() {
			h := value(term, vote)
			for _, ahead := range [][]api.Hard{nil, row(value(9, 3)), row(h), row(value(mostNumber, mostNodes), value(0, 0))} {
				what := fmt.Sprintf("10.2: %v behind %v", h, ahead)
				d := synced(t, files{"other": "x"})
				savesAll(t, what, d, append(slices.Clone(ahead), h))
				lies(t, what, d, files{"other": "x", old: file(ahead...) + framed(laid(h))})
				opens(t, what, d, h)
				waits(t, what, d, len(ahead)+1)
			}
		}
	}
}

// TestLong: 10.2, a file of fewer than Long bytes grows; one of just Long, or of more,
// begins anew, whatever lies in it.
func TestLong(t *testing.T) {
	h := value(300, 7)
	for n := 20; n < 3*long; n++ {
		what := fmt.Sprintf("10.2: behind %d bytes", n)
		some := filling(n)
		for _, s := range []string{file(some...), strings.Repeat("x", n)} {
			d := synced(t, files{old: s})
			saves(t, what, d, h, api.OK)
			if n < long {
				lies(t, what, d, files{old: s + file(h)})
				waits(t, what, d, 1)
				continue
			}
			lies(t, what, d, files{old: file(h)})
			waits(t, what, d, 2)
			opens(t, what, d, h)
		}
	}
	if n := len(file(filling(long)...)); n != 256 {
		t.Errorf("10.2: a file of %d bytes, not of Long", n)
	}
}

// TestLongByHand: 10.2, the same: 25 values in 250 bytes, a 26th, and one that stands alone.
func TestLongByHand(t *testing.T) {
	d := made(t, nil)
	for i, h := range run(1, 60) {
		saves(t, "10.2: one by one", d, h, api.OK)
		opens(t, "10.2: one by one", d, h)
		b, _ := d.Read(old)
		if want := 10 * (i%26 + 1); len(b) != want {
			t.Errorf("10.2: %d bytes behind %d values, not %d", len(b), i+1, want)
		}
	}
	lies(t, "10.2: one by one", d, files{old: file(run(53, 60)...)})
	// The 27th and the 53rd begin the file anew, by two operations in place of one.
	waits(t, "10.2: one by one", d, 62)
}

// TestNewThere: 10.2, a file hard.new that is there already: gone where Save begins the
// file anew, and as it was where Save does not.
func TestNewThere(t *testing.T) {
	h := value(5, 1)
	for _, left := range []string{"", "x", file(value(8, 2)), file(value(8, 2))[:4], file(run(1, 40)...)} {
		what := fmt.Sprintf("10.2: hard.new of %d bytes", len(left))
		for _, n := range []int{long - 1, long, long + 1, 600} {
			m := files{old: file(filling(n)...), fresh: left}
			d := synced(t, m)
			saves(t, what, d, h, api.OK)
			if n < long {
				lies(t, what, d, files{old: m[old] + file(h), fresh: left})
				waits(t, what, d, 1)
			} else {
				lies(t, what, d, files{old: file(h)})
				waits(t, what, d, 3)
			}
			opens(t, what, d, h)
			lies(t, what, d, files{old: m.saving(h)[len(m.saving(h))-1].left[old]})
		}
		d := synced(t, files{fresh: left})
		saves(t, what+", and no hard", d, h, api.OK)
		lies(t, what+", and no hard", d, files{old: file(h), fresh: left})
		opens(t, what+", and no hard", d, h)
		lies(t, what+", and no hard", d, files{old: file(h)})
	}
}

// TestSaveArgs: 10.2, no disk, or a value that is not right, wherever the file stands:
// ErrArg, and the disk is not asked for anything.
func TestSaveArgs(t *testing.T) {
	for _, h := range append(wrong(), value(0, 0), value(3, 1)) {
		saves(t, "10.2: no disk", nil, h, api.ErrArg)
	}
	for _, m := range []files{nil, {old: ""}, {old: file(run(1, 3)...)}, {old: file(filling(long)...)}, {old: file(run(1, 99)...), fresh: "x"}, {fresh: file(value(1, 1))}} {
		for _, h := range wrong() {
			d := synced(t, m)
			d.Fuse(0)
			saves(t, "10.2: wrong", d, h, api.ErrArg)
			if d.Down() {
				t.Errorf("10.2: Save(%v) asked for an operation of the disk", h)
			}
			d.Fuse(-1)
			waits(t, "R3: after ErrArg", d, 0)
			lies(t, "R3: after ErrArg", d, m)
			last, _ := read(m[old])
			opens(t, "R3: after ErrArg", d, last)
		}
	}
}

// TestSaveOnly: 10.2, the last value is the one, also where its term is less, or it is
// the same, or zero.
func TestSaveOnly(t *testing.T) {
	d := made(t, nil)
	for _, h := range row(value(9, 3), value(2, 1), value(2, 1), value(0, 0), value(0, 7), value(mostNumber, 0), value(0, 0)) {
		saves(t, "10.2: any value", d, h, api.OK)
		opens(t, "10.2: any value", d, h)
	}
	if _, e := hard.Open(d); e != api.OK || d.Pending() != 7 {
		t.Errorf("10.2: any value: %d, %d operations", e, d.Pending())
	}
}
