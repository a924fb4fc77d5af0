package seg_test

import (
	"math"
	"strings"
	"testing"

	"bursar/api"
	"bursar/disk"
	"bursar/seg"
)

// TestOpenArgs: 9.2, a disk that is none, and limits at their edges; a call that
// answers ErrArg has not touched the disk.
func TestOpenArgs(t *testing.T) {
	spoilt := map[string]string{name(5): "spoilt"}
	for _, limit := range []int{math.MinInt, -64, -1, 0, 1, 63, mostLimit + 1, 1 << 20, math.MaxInt} {
		d := made(t, mostRoom, spoilt)
		if l, e := seg.Open(d, limit); l != nil || e != api.ErrArg {
			t.Errorf("9.2: limit %d: %v %d", limit, l, e)
		}
		lies(t, "R3: after ErrArg", d, spoilt)
		if l, e := seg.Open(nil, limit); l != nil || e != api.ErrArg {
			t.Errorf("9.2: no disk, limit %d: %v %d", limit, l, e)
		}
	}
	for _, limit := range []int{64, 65, mostLimit - 1, mostLimit} {
		if l, e := seg.Open(nil, limit); l != nil || e != api.ErrArg {
			t.Errorf("9.2: no disk, limit %d: %v %d", limit, l, e)
		}
		d := made(t, mostRoom, spoilt)
		holds(t, "9.2: at the edges", opened(t, d, limit), nil)
		lies(t, "9.2: at the edges", d, nil)
	}
}

// opens opens the log of some files, and fails where it does not hold some entries, or
// leaves other files than left; where it opens otherwise once more; or where nothing can
// be appended to it.
func opens(t *testing.T, what string, some map[string]string, want []api.Entry, left map[string]string) {
	t.Helper()
	d := made(t, mostRoom, some)
	l := opened(t, d, leastLimit)
	holds(t, what, l, want)
	lies(t, what, d, left)
	done := d.Pending()
	again := opened(t, d, leastLimit)
	holds(t, what+", opened again", again, want)
	if lies(t, what+", opened again", d, left); d.Pending() != done {
		t.Errorf("%s: opened again, %d operations more", what, d.Pending()-done)
	}
	next := none(9, 77)
	if len(want) > 0 {
		next.Index = want[len(want)-1].Index + 1
	}
	if next.Index > mostNumber {
		return
	}
	asks(t, what+", then appended to", l, add(next), api.OK)
	holds(t, what+", then appended to", l, append(want, next))
	holds(t, what+", then appended to, and opened", opened(t, d, leastLimit), append(want, next))
}

// TestOpen: 9.2, files that fit are read whole, and nothing is done to them.
func TestOpen(t *testing.T) {
	long := command(2, 7, strings.Repeat("x", mostData))
	for _, c := range []struct {
		what  string
		files map[uint64]string
		want  []api.Entry
	}{
		{"no files", nil, nil},
		{"one segment of one", map[uint64]string{5: file(none(2, 5))}, row(none(2, 5))},
		{"one segment of some", map[uint64]string{1: file(none(1, 1), command(1, 2, "ab"), conf(4, 3, 14))}, row(none(1, 1), command(1, 2, "ab"), conf(4, 3, 14))},
		{"some segments", map[uint64]string{9: file(none(2, 9)), 10: file(none(2, 10)), 11: file(none(3, 11))}, row(none(2, 9), none(2, 10), none(3, 11))},
		{"more in a segment than the limit", map[uint64]string{5: file(run(2, 5, 50)...)}, run(2, 5, 50)},
		{"an entry that is longer than the limit", map[uint64]string{7: file(long), 8: file(none(2, 8))}, row(long, none(2, 8))},
		{"numbers whose digits are letters", map[uint64]string{0x9f: file(none(2, 0x9f)), 0xa0: file(none(2, 0xa0)), 0xa1: file(none(2, 0xa1))}, row(none(2, 0x9f), none(2, 0xa0), none(2, 0xa1))},
		{"from the first number", map[uint64]string{1: file(none(1, 1))}, row(none(1, 1))},
		{"up to the last number", map[uint64]string{mostNumber - 1: file(none(1, mostNumber-1)), mostNumber: file(none(mostNumber, mostNumber))}, row(none(1, mostNumber-1), none(mostNumber, mostNumber))},
		{"the last number within a segment", map[uint64]string{mostNumber - 1: file(none(1, mostNumber-1), none(1, mostNumber))}, row(none(1, mostNumber-1), none(1, mostNumber))},
	} {
		opens(t, "9.2: "+c.what, named(c.files), c.want, named(c.files))
		d := made(t, mostRoom, named(c.files))
		if opened(t, d, mostLimit); d.Pending() != len(c.files) {
			t.Errorf("9.2: %s: %d operations", c.what, d.Pending()-len(c.files))
		}
	}
}

// TestOpenSpoilt: 9.2, things that do not fit: what lies ahead of them is the log, and
// nothing else is left.
func TestOpenSpoilt(t *testing.T) {
	a, b, c := none(2, 5), command(2, 6, "ab"), none(4, 7)
	for _, x := range []struct {
		what  string
		files map[uint64]string
		want  []api.Entry
		left  map[uint64]string
	}{
		{"the first entry is not of the name", map[uint64]string{5: file(b, c), 6: file(b)}, nil, nil},
		{"the first entry is behind that of the name", map[uint64]string{5: file(a), 6: file(c)}, row(a), map[uint64]string{5: file(a)}},
		{"the first entry is ahead of that of the name", map[uint64]string{5: file(a), 7: file(b, c)}, row(a), map[uint64]string{5: file(a)}},
		{"contents that changed their places", map[uint64]string{5: file(c), 7: file(a, b)}, nil, nil},
		{"a gap between segments", map[uint64]string{5: file(a), 7: file(c)}, row(a), map[uint64]string{5: file(a)}},
		{"a gap within a segment", map[uint64]string{5: file(a, c), 8: file(none(4, 8))}, row(a), map[uint64]string{5: file(a)}},
		{"the same again within a segment", map[uint64]string{5: file(a, a)}, row(a), map[uint64]string{5: file(a)}},
		{"back within a segment", map[uint64]string{5: file(a, b, a)}, row(a, b), map[uint64]string{5: file(a, b)}},
		{"the same again in the next segment", map[uint64]string{5: file(a, b), 6: file(b)}, row(a, b), map[uint64]string{5: file(a, b)}},
		{"a term that falls within a segment", map[uint64]string{5: file(a, b, none(1, 7))}, row(a, b), map[uint64]string{5: file(a, b)}},
		{"a term that falls between segments", map[uint64]string{5: file(a, b), 7: file(none(1, 7)), 8: file(none(4, 8))}, row(a, b), map[uint64]string{5: file(a, b)}},
		{"a segment of nothing alone", map[uint64]string{5: ""}, nil, nil},
		{"a segment of nothing first", map[uint64]string{5: "", 6: file(b)}, nil, nil},
		{"a segment of nothing in the midst", map[uint64]string{5: file(a), 6: "", 7: file(c)}, row(a), map[uint64]string{5: file(a)}},
		{"a segment of nothing that is not the next", map[uint64]string{5: file(a, b), 6: "", 7: file(c)}, row(a, b), map[uint64]string{5: file(a, b)}},
		{"a segment of nothing at the end", map[uint64]string{5: file(a), 6: ""}, row(a), map[uint64]string{5: file(a)}},
		{"segments of nothing at the end", map[uint64]string{5: file(a), 6: "", 7: "", 9: ""}, row(a), map[uint64]string{5: file(a)}},
		{"the name of 0, of nothing", map[uint64]string{0: ""}, nil, nil},
		{"the name of 0, of the entry 1", map[uint64]string{0: file(none(1, 1)), 1: file(none(1, 1))}, nil, nil},
		{"the name of 0, of an entry 0", map[uint64]string{0: file(none(1, 0)), 1: file(none(1, 1))}, nil, nil},
		{"an entry of term 0", map[uint64]string{5: file(none(0, 5))}, nil, nil},
		{"an index that is too great", map[uint64]string{mostNumber: file(none(1, mostNumber), none(1, mostNumber+1))}, row(none(1, mostNumber)), map[uint64]string{mostNumber: file(none(1, mostNumber))}},
		{"bytes behind the last entry", map[uint64]string{5: file(a) + "\x07"}, row(a), map[uint64]string{5: file(a)}},
		{"bytes behind, and a segment", map[uint64]string{5: file(a) + "\x00", 6: file(b)}, row(a), map[uint64]string{5: file(a)}},
		{"bytes alone", map[uint64]string{5: "abc", 6: file(b)}, nil, nil},
		{"bytes alone in the next segment", map[uint64]string{5: file(a), 6: "abc", 7: file(c)}, row(a), map[uint64]string{5: file(a)}},
		{"bytes ahead of the entries", map[uint64]string{5: "\x00" + file(a, b)}, nil, nil},
		{"an entry, an end, and what would follow", map[uint64]string{5: file(a) + "\x00" + file(b), 7: file(c)}, row(a), map[uint64]string{5: file(a)}},
		{"some that fit behind one that does not", map[uint64]string{5: file(a, b, b, c), 8: file(none(4, 8))}, row(a, b), map[uint64]string{5: file(a, b)}},
	} {
		opens(t, "9.2: "+x.what, named(x.files), x.want, named(x.left))
	}
}

// TestOpenNoEntry: 9.2, frames that are complete but hold no entry, at each place.
func TestOpenNoEntry(t *testing.T) {
	a, b, c := none(2, 5), command(2, 6, "ab"), none(4, 7)
	tooLong := command(2, 6, strings.Repeat("x", mostData+1))
	for _, s := range []string{
		"", "\x00", "abc", laid(b)[:3], laid(b) + "\x00", laid(tooLong), laid(none(0, 6)), laid(command(2, 6, "")), laid(conf(2, 6, 0)), laid(conf(2, 6, 3)), laid(conf(2, 6, 255)),
		"\x03\x02\x06", "\xff\x02\x06", "\x00\x82\x00\x06", "\x00\x02\x86\x00", strings.Repeat("\x00", mostData+33), strings.Repeat("\x01", 1<<16),
	} {
		f := framed(s)
		opens(t, "9.2: no entry alone", named(map[uint64]string{5: f}), nil, nil)
		opens(t, "9.2: no entry first", named(map[uint64]string{5: f + file(a), 6: file(b)}), nil, nil)
		opens(t, "9.2: no entry at the end", named(map[uint64]string{5: file(a) + f}), row(a), named(map[uint64]string{5: file(a)}))
		opens(t, "9.2: no entry in the midst", named(map[uint64]string{5: file(a) + f + file(b), 7: file(c)}), row(a), named(map[uint64]string{5: file(a)}))
		opens(t, "9.2: no entry in the next segment", named(map[uint64]string{5: file(a), 6: f + file(b), 7: file(c)}), row(a), named(map[uint64]string{5: file(a)}))
	}
	// A frame may not hold more than 2^16 bytes.
	f := framed(strings.Repeat("\x01", 1<<16+1))
	opens(t, "9.2: no frame", named(map[uint64]string{5: file(a) + f}), row(a), named(map[uint64]string{5: file(a)}))
}

// three answers a log of three segments, and the places where their frames end.
func three() (some []api.Entry, files map[string]string) {
	some = row(none(2, 5), command(2, 6, "ab"), none(2, 7), conf(4, 8, 14), none(4, 9))
	return some, named(map[uint64]string{5: file(some[:2]...), 7: file(some[2:4]...), 9: file(some[4])})
}

// TestOpenCut: 9.2, each file cut off at each place: the log ends there.
func TestOpenCut(t *testing.T) {
	some, whole := three()
	for n := range whole {
		for k := range whole[n] {
			_, files := three()
			files[n] = whole[n][:k]
			want, left := read(files)
			if len(want) >= len(some) {
				t.Fatalf("9.2: %q cut off at %d: all of it would fit", n, k)
			}
			opens(t, "9.2: cut off", files, want, left)
		}
	}
}

// TestOpenTurned: 9.2, each byte of each file turned: the log ends ahead of its frame.
func TestOpenTurned(t *testing.T) {
	some, whole := three()
	for n := range whole {
		for k := range whole[n] {
			for _, x := range []byte{1, 2, 0x80, 0xff} {
				_, files := three()
				s := []byte(whole[n])
				s[k] ^= x
				files[n] = string(s)
				want, left := read(files)
				if len(want) >= len(some) {
					t.Fatalf("9.2: %q turned at %d: all of it would fit", n, k)
				}
				opens(t, "9.2: turned", files, want, left)
			}
		}
	}
}

// wreck answers a Disk on which four segments lie, synced, of which the second is spoilt
// behind its first entry, or from its beginning on; and how its files lie after each step
// of putting that right.
func wreck(t *testing.T, first bool) (*disk.Disk, []map[string]string, []api.Entry) {
	t.Helper()
	some := run(2, 5, 12)
	sound := map[uint64]string{5: file(some[:2]...), 7: file(some[2:4]...) + "xyz", 9: file(some[4:6]...), 11: file(some[6:]...)}
	ends, last := some[:4], file(some[2:4]...)
	if first {
		sound[7], ends, last = "xyz", some[:2], ""
	}
	d := made(t, mostRoom, named(sound))
	d.Sync()
	steps := []map[string]string{named(sound)}
	for _, n := range []uint64{11, 9} {
		delete(sound, n)
		steps = append(steps, named(sound))
	}
	if sound[7] = last; first {
		delete(sound, 7)
	}
	return d, append(steps, named(sound)), ends
}

// TestOpenOrder: 9.2, what does not fit goes from behind, each file by an operation of
// its own, and nothing is synced; after a crash in its midst it opens as before.
func TestOpenOrder(t *testing.T) {
	for _, first := range []bool{false, true} {
		for keep := range 4 {
			d, steps, want := wreck(t, first)
			holds(t, "9.2: four segments", opened(t, d, leastLimit), want)
			lies(t, "9.2: four segments", d, steps[3])
			if d.Pending() != 3 {
				t.Fatalf("9.2: %d operations, not 3", d.Pending())
			}
			d.Crash(keep, 0)
			lies(t, "9.2: the steps of an Open", d, steps[keep])
			holds(t, "9.6: after a crash", opened(t, d, leastLimit), want)
			lies(t, "9.6: after a crash", d, steps[3])
		}
	}
}

// TestOpenFails: 9.2, an error of the disk is answered, and the log opens behind it.
func TestOpenFails(t *testing.T) {
	for _, first := range []bool{false, true} {
		for fuse := range 5 {
			d, steps, want := wreck(t, first)
			d.Fuse(fuse)
			l, e := seg.Open(d, leastLimit)
			if fuse >= 3 {
				if l == nil || e != api.OK {
					t.Errorf("9.2: a fuse of %d: %v %d", fuse, l, e)
				}
				continue
			}
			if l != nil || e != api.ErrDown || !d.Down() || d.Pending() != fuse {
				t.Errorf("9.2: a fuse of %d: %v %d, %d operations", fuse, l, e, d.Pending())
			}
			d.Crash(fuse, 0)
			lies(t, "9.2: behind an error", d, steps[fuse])
			holds(t, "9.2: behind an error", opened(t, d, leastLimit), want)
		}
	}
}

// TestOpenDown: 9.2, a disk that is down shows no files, so nothing is asked of it.
func TestOpenDown(t *testing.T) {
	d := made(t, mostRoom, map[string]string{name(5): "spoilt"})
	d.Sync()
	d.Fuse(0)
	d.Sync()
	l := opened(t, d, leastLimit)
	holds(t, "9.2: a disk that is down", l, nil)
	asks(t, "9.5: a disk that is down", l, add(none(1, 1)), api.ErrDown)
	d.Crash(0, 0)
	lies(t, "9.2: up again", d, map[string]string{name(5): "spoilt"})
}

// TestOpenFull: 9.2, what does not fit goes also where the disk has no room.
func TestOpenFull(t *testing.T) {
	d, steps, want := wreck(t, false)
	d.Room(0)
	l := opened(t, d, leastLimit)
	holds(t, "9.2: no room", l, want)
	lies(t, "9.2: no room", d, steps[3])
	asks(t, "9.5: no room", l, add(sized(2, 9, 30)), api.ErrFull)
}
