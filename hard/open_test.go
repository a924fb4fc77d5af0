package hard_test

import (
	"encoding/binary"
	"fmt"
	"math"
	"slices"
	"strings"
	"testing"

	"bursar/api"
)

// mends fails where Open of a disk with some files does not answer h, or leaves other
// than left, or does more operations than it needs; or where what it leaves is read
// otherwise later.
func mends(t *testing.T, what string, m files, h api.Hard, left files) {
	t.Helper()
	d := synced(t, m)
	opens(t, what, d, h)
	lies(t, what, d, left)
	n := 0
	if m.has(fresh) {
		n++
	}
	if m[old] != left[old] {
		n++
	}
	waits(t, what, d, n)
	opens(t, what+", again", d, h)
	waits(t, what+", again", d, n)
	savesAll(t, what+", saved", d, row(value(11, 4)))
	opens(t, what+", saved", d, value(11, 4))
	d.Sync()
	opens(t, what+", synced", d, value(11, 4))
	waits(t, what+", synced", d, 0)
}

// notValues answers what a frame may hold that is no term and vote.
func notValues() []string {
	num := func(n uint64) string { return string(binary.AppendUvarint(nil, n)) }
	return []string{
		"", "\x05", num(300), num(mostNumber), "\x80", "\xac", // cut off
		"\x05\x01\x00", "\x05\x01\x01", "\x00\x00\x00", num(mostNumber) + "\x07\x00", laid(value(3, 1)) + laid(value(4, 1)), // more
		"\x05\x08", "\x05\x09", "\x05\x7f", "\x05\x80", "\x05\xff", "\x05\x81\x00", "\x00\x08", // votes that may not be
		num(mostNumber+1) + "\x01", num(1<<63) + "\x01", num(math.MaxUint64) + "\x00", num(mostNumber+1) + "\x08", // terms that may not be
		"\x80\x00", "\x80\x00\x01", "\x85\x00\x01", "\xac\x82\x00\x01", "\xff\xff\xff\xff\xff\xff\xff\xff\x00\x01", // numbers that are too long
		"\xff\xff\xff\xff\xff\xff\xff\xff\xff\x02\x01", "\xff\xff\xff\xff\xff\xff\xff\xff\xff\xff\x01",
		strings.Repeat("x", mostFrame), strings.Repeat("\x00", 99), "hard",
	}
}

// TestNotValues: 10.2, frames that hold other than a valid term and vote, or more, at the
// beginning, in the midst and at the end: they go, and all behind them.
func TestNotValues(t *testing.T) {
	for _, s := range notValues() {
		for _, ahead := range [][]api.Hard{nil, row(value(3, 1)), run(1, 24), row(value(mostNumber, mostNodes), value(0, 0))} {
			for _, behind := range []string{"", file(value(9, 2)), "x", file(run(5, 9)...), framed("")} {
				what := fmt.Sprintf("10.2: %s in the midst of %s and % .20x", short([]byte(s)), short(ahead), behind)
				last, left := value(0, 0), file(ahead...)
				if len(ahead) > 0 {
					last = ahead[len(ahead)-1]
				}
				mends(t, what, files{old: left + framed(s) + behind}, last, files{old: left})
			}
		}
	}
}

// TestSpoilt: 10.2, a file in which one byte was changed, at each place, by each bit.
func TestSpoilt(t *testing.T) {
	some := row(value(3, 1), value(300, 0), value(0, 0), value(mostNumber, mostNodes), value(4, 2))
	var ends []int
	for i := range some {
		ends = append(ends, len(file(some[:i]...)))
	}
	s := file(some...)
	for at := range s {
		for bit := range 8 {
			b := []byte(s)
			b[at] ^= 1 << bit
			n := 0
			for n+1 < len(some) && ends[n+1] <= at {
				n++
			}
			last := append(row(value(0, 0)), some...)[n]
			mends(t, fmt.Sprintf("10.2: the bit %d of the byte %d is changed", bit, at), files{old: string(b)}, last, files{old: s[:ends[n]]})
		}
	}
}

// TestCutOff: 10.2, a file that ends at each place, alone and with each number of bytes
// of another behind it.
func TestCutOff(t *testing.T) {
	some := row(value(3, 1), value(300, 0), value(mostNumber, mostNodes), value(4, 2))
	s := file(some...)
	for n := range len(s) + 1 {
		last, left := value(0, 0), ""
		for i := range some {
			if all := file(some[:i+1]...); len(all) <= n {
				last, left = some[i], all
			}
		}
		mends(t, fmt.Sprintf("10.2: %d bytes are left", n), files{old: s[:n]}, last, files{old: left})
	}
}

// TestRubbish: 10.2, bytes that begin no frame: a length of more than there is, a sum of
// others, or nothing that is known.
func TestRubbish(t *testing.T) {
	h := value(6, 6)
	for _, s := range []string{
		"x", "\x00", strings.Repeat("\x00", 7), "\x02\x00\x00\x00", framed(laid(h))[:8], framed(laid(h))[:9],
		"\x03\x00\x00\x00" + framed(laid(h))[4:], "\x01\x00\x00\x00" + framed(laid(h))[4:], "\x02\x00\x01\x00" + framed(laid(h))[4:],
		"\xff\xff\xff\xff" + framed(laid(h))[4:], "\x02\x00\x00\x80" + framed(laid(h))[4:], laid(h), strings.Repeat("rubbish", 999),
		"\x02\x00\x00\x00\x00\x00\x00\x00" + laid(h), "\x00\x00\x00\x02" + framed(laid(h))[4:], framed(strings.Repeat("x", mostFrame+1)),
	} {
		for _, ahead := range [][]api.Hard{nil, row(h), run(1, 25)} {
			last := append(row(value(0, 0)), ahead...)[len(ahead)]
			mends(t, fmt.Sprintf("10.2: % .20x behind %s", s, short(ahead)), files{old: file(ahead...) + s}, last, files{old: file(ahead...)})
		}
	}
	// Zeroes are frames of no bytes, and hold no value.
	mends(t, "10.2: zeroes", files{old: file(h) + strings.Repeat("\x00", 32)}, h, files{old: file(h)})
}

// TestWhole: 10.2, files in which all fits: nothing is done, whatever their length.
func TestWhole(t *testing.T) {
	for n := 20; n < 2*long; n++ {
		some := filling(n)
		mends(t, fmt.Sprintf("10.2: %d bytes", n), files{old: file(some...)}, some[len(some)-1], files{old: file(some...)})
	}
	mends(t, "10.2: an empty file", files{old: ""}, value(0, 0), files{old: ""})
	mends(t, "10.2: no file", nil, value(0, 0), nil)
	many := run(1, 3000)
	mends(t, "10.2: a great file", files{old: file(many...)}, many[len(many)-1], files{old: file(many...)})
	mends(t, "10.2: a great file, torn", files{old: file(many...) + "x"}, many[len(many)-1], files{old: file(many...)})
}

// TestNewGoes: 10.2, a file hard.new goes, whatever lies in it, and its value is not told.
func TestNewGoes(t *testing.T) {
	for _, left := range []string{"", "x", file(value(8, 2)), file(value(8, 2))[:4], file(run(1, 40)...), strings.Repeat("x", 9999)} {
		what := fmt.Sprintf("10.2: hard.new of %d bytes", len(left))
		mends(t, what, files{fresh: left}, value(0, 0), nil)
		mends(t, what, files{fresh: left, old: ""}, value(0, 0), files{old: ""})
		mends(t, what, files{fresh: left, old: file(run(1, 3)...)}, value(3, 3), files{old: file(run(1, 3)...)})
		mends(t, what, files{fresh: left, old: file(run(1, 3)...) + "x"}, value(3, 3), files{old: file(run(1, 3)...)})
		mends(t, what, files{fresh: left, old: file(filling(long)...)}, filling(long)[24], files{old: file(filling(long)...)})
	}
}

// TestOthers: 10.2, files with other names, though nearly the same, are not touched.
func TestOthers(t *testing.T) {
	m := files{}
	for i, name := range []string{"Hard", "hard.", "hard.ne", "hard.new.", "hard.new2", "hard.old", "har", "hard ", "hard\x00", "hard.New", "new", "snap", "snap.new", "s000000000000005", " hard"} {
		m[name] = file(value(uint64(i), 1)) + "x"
	}
	d := synced(t, m)
	opens(t, "10.2: other files", d, value(0, 0))
	lies(t, "10.2: other files", d, m)
	waits(t, "10.2: other files", d, 0)
	for _, h := range run(1, 80) {
		saves(t, "10.2: other files", d, h, api.OK)
		opens(t, "10.2: other files", d, h)
	}
	m = m.with(old, new(file(run(79, 80)...)))
	lies(t, "10.2: other files", d, m)
	d.Append(old, []byte("x"))
	d.Append(fresh, []byte("x"))
	opens(t, "10.2: other files", d, value(80, 0))
	lies(t, "10.2: other files", d, m)
}

// TestOpenArgs: 10.2, no disk: ErrArg, each time.
func TestOpenArgs(t *testing.T) {
	fails(t, "10.2: no disk", nil, api.ErrArg)
	fails(t, "10.2: no disk", nil, api.ErrArg)
}

// TestReading: 10.2, what the tests take for the chapter's reading, by hand.
func TestReading(t *testing.T) {
	for _, c := range []struct {
		s    string
		h    api.Hard
		left int
	}{
		{"", value(0, 0), 0},
		{framed("\x03\x01"), value(3, 1), 10},
		{framed("\x03\x01") + framed("\x04\x00"), value(4, 0), 20},
		{framed("\x03\x01") + framed("\x04\x08"), value(3, 1), 10},
		{framed("\x03\x01") + framed("\x84\x00\x01"), value(3, 1), 10},
		{framed("\x03\x01") + framed("") + framed("\x04\x00"), value(3, 1), 10},
		{framed("\x03\x01") + framed("\x04\x00")[:9], value(3, 1), 10},
	} {
		if h, left := read(c.s); h != c.h || left != c.s[:c.left] {
			t.Errorf("10.2: % x is read as %v, % x", c.s, h, left)
		}
	}
	for _, s := range notValues() {
		if h, left := read(framed(s)); h != value(0, 0) || left != "" {
			t.Errorf("10.2: %s is read as %v", short([]byte(s)), h)
		}
	}
	if !slices.Equal(filling(30), row(value(1, 0), value(1, 1), value(1, 2))) {
		t.Errorf("10.2: 30 bytes are %v", filling(30))
	}
}
