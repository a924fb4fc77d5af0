package photo_test

import (
	"fmt"
	"math"
	"strings"
	"testing"

	"bursar/api"
)

// holds fails where Open of a disk with some files answers other than they tell, or does
// other than to take away snap.new; or where the disk can't be used behind that.
func holds(t *testing.T, what string, m files, s api.Snap, ok bool) {
	t.Helper()
	d := synced(t, m)
	left := m.without(fresh)
	for range 2 {
		answers(t, what, d, s, ok, api.OK)
		lies(t, what, d, left)
		waits(t, what, d, len(m.opening()))
	}
	d.Sync()
	answers(t, what+", synced", d, s, ok, api.OK)
	waits(t, what+", synced", d, 0)
	x := snap(11, 4, 30, "saved")
	saves(t, what+", saved", d, x, api.OK)
	opens(t, what+", saved", d, x)
	b := file(x)
	lies(t, what+", saved", d, left.with(old, &b))
}

// lacks fails where Open of a disk with s in its file tells a snapshot, or changes the file.
func lacks(t *testing.T, what, s string) {
	t.Helper()
	holds(t, what, files{old: s}, api.Snap{}, false)
}

// notSnaps answers what a frame may hold that is no snapshot, or more than one.
func notSnaps() []string {
	some := []string{
		"", "\x04", "\x04\x02", "\x04\x02\x0e", num(300), num(300) + num(300), "\x80", "\xac", "\x04\x80", "\x04\x02\x0e\x80", // cut off
		"\x04\x02\x0e\x02a", "\x04\x02\x0e\x01", "\x04\x02\x0e\x7fab", "\x04\x02\x0e" + num(mostData) + filled(mostData-1), // of fewer bytes than it says
		"\x04\x02\x0e\x02abc", "\x04\x02\x0e\x02ab\x00", "\x04\x02\x0e\x00\x00", "\x04\x02\x0e\x00ab", laid(snap(4, 2, 14, "ab")) + laid(snap(4, 2, 14, "ab")), // more
		"\x00\x02\x0e\x02ab", "\x04\x00\x0e\x02ab", "\x00\x00\x0e\x00", "\x00\x00\x00\x00", // none
		num(mostNumber+1) + "\x02\x0e\x02ab", "\x04" + num(mostNumber+1) + "\x0e\x02ab", num(1<<63) + "\x02\x0e\x00", "\x04" + num(math.MaxUint64) + "\x0e\x00", // beyond
		"\x84\x00\x02\x0e\x02ab", "\x04\x82\x00\x0e\x02ab", "\x04\x02\x0e\x82\x00ab", "\x80\x00\x02\x0e\x00", "\x04\x02\x0e\x80\x00", // longer than need be
		"\xff\xff\xff\xff\xff\xff\xff\xff\xff\x02\x02\x0e\x00", "\x04\x02\x0e\xff\xff\xff\xff\xff\xff\xff\xff\xff\x01", "\x04\x02\x0e\xff\xff\xff\xff\xff\xff\xff\xff\xff\x02", // beyond all numbers
		"\x04\x02\x8e\x00\x02ab", "\x0e\x02\x04", "\x02ab", file(snap(4, 2, 14, "ab")), // another order, another form
		"\x04\x02\x0e" + num(mostData+1) + filled(mostData+1), "\x04\x02\x0e" + num(mostData+1) + filled(mostData), "\x04\x02\x0e" + num(1<<16-9) + filled(1<<16-9),
		strings.Repeat("x", mostFrame), strings.Repeat("\x00", 99), "snap",
	}
	for _, conf := range []byte{0, 1, 3, 13, 15, 127, 129, 253, 255} {
		some = append(some, "\x04\x02"+string([]byte{conf})+"\x02ab")
	}
	return some
}

// TestNotSnaps: 11.2, a frame that holds more, less or other than a right snapshot: there
// is none, and the file stays.
func TestNotSnaps(t *testing.T) {
	for _, s := range notSnaps() {
		what := "11.2: a frame of " + short([]byte(s))
		lacks(t, what, framed(s))
		if _, ok := read(framed(s)); ok {
			t.Errorf("%s is read as a snapshot", what)
		}
	}
}

// TestSnaps: 11.2, a file of each snapshot that may be.
func TestSnaps(t *testing.T) {
	for _, s := range rights() {
		what := fmt.Sprintf("11.2: a file of %s with %d bytes", short(s), len(s.Data))
		holds(t, what, files{old: file(s)}, s, true)
		if x, ok := read(file(s)); !ok || !same(x, s) {
			t.Errorf("%s is read as %s %v", what, short(x), ok)
		}
	}
	for _, s := range wrongs() {
		if s.Base.Conf >= 0 && s.Base.Conf <= 255 {
			lacks(t, "11.2: a file of "+short(s), file(s))
		}
	}
}

// TestSpoilt: 11.2, a file in which one byte was changed, at each place, by each bit.
func TestSpoilt(t *testing.T) {
	s := file(snap(300, 2, 14, "abcd"))
	for at := range s {
		for bit := range 8 {
			b := []byte(s)
			b[at] ^= 1 << bit
			lacks(t, fmt.Sprintf("11.2: the bit %d of the byte %d is changed", bit, at), string(b))
		}
	}
	great := file(snap(300, 2, 14, filled(mostData)))
	for _, at := range []int{8, 20, 300, 9999, len(great) - 1} {
		b := []byte(great)
		b[at] ^= 4
		lacks(t, fmt.Sprintf("11.2: the byte %d of a great one is changed", at), string(b))
	}
}

// TestCutOff: 11.2, a file that ends at each place.
func TestCutOff(t *testing.T) {
	s := snap(300, 2, 14, "abcdefgh")
	for n := range len(file(s)) {
		lacks(t, fmt.Sprintf("11.2: %d bytes are left", n), file(s)[:n])
	}
	holds(t, "11.2: no byte is missing", files{old: file(s)}, s, true)
	great := file(snap(300, 2, 14, filled(mostData)))
	for _, n := range []int{7, 8, 9, 12, 256, mostData, len(great) - 1} {
		lacks(t, fmt.Sprintf("11.2: %d bytes of a great one are left", n), great[:n])
	}
}

// TestNotOneFrame: 11.2, no frame, two frames, or bytes ahead of the one or behind it.
func TestNotOneFrame(t *testing.T) {
	s, x := file(snap(4, 2, 14, "ab")), file(snap(9, 3, 6, "xyz"))
	for _, b := range []string{
		"", "x", "\x00", strings.Repeat("\x00", 7), strings.Repeat("\x00", 8), strings.Repeat("\x00", 16), strings.Repeat("x", 99999),
		s + s, s + x, x + s, s + s + s, s + framed(""), framed("") + s, framed("x") + s, s + framed("x"), s + framed(laid(snap(0, 2, 14, ""))),
		s + "\x00", s + "x", s + strings.Repeat("\x00", 7), s + strings.Repeat("\x00", 8), s + x[:4], s + x[:8], s + x[:len(x)-1],
		"\x00" + s, "x" + s, laid(snap(4, 2, 14, "ab")), s[8:], s[4:], framed(strings.Repeat("x", mostFrame+1)), framed(s),
		"\x05" + s[1:], "\x07" + s[1:], "\x06\x00\x00\x80" + s[4:], "\x06\x00\x01\x00" + s[4:], "\xff\xff\xff\xff" + s[4:], s[:4] + "\x00\x00\x00\x00" + s[8:],
		"\x00\x00\x00\x06" + s[4:], s[:4] + s[7:8] + s[6:7] + s[5:6] + s[4:5] + s[8:],
	} {
		lacks(t, fmt.Sprintf("11.2: a file of %d bytes % .30x", len(b), b), b)
	}
}

// TestNoFile: 11.2, no file, and one that is empty.
func TestNoFile(t *testing.T) {
	holds(t, "11.2: no file", nil, api.Snap{}, false)
	holds(t, "11.2: an empty file", files{old: ""}, api.Snap{}, false)
}

// TestNewGoes: 11.2, a file snap.new goes, whatever lies in it, and its snapshot is not
// told.
func TestNewGoes(t *testing.T) {
	s := snap(4, 2, 14, "ab")
	for _, left := range lefts() {
		what := fmt.Sprintf("11.2: Open, snap.new of %d bytes", len(left))
		holds(t, what, files{fresh: left}, api.Snap{}, false)
		holds(t, what, files{fresh: left, old: ""}, api.Snap{}, false)
		holds(t, what, files{fresh: left, old: file(s) + "x"}, api.Snap{}, false)
		holds(t, what, files{fresh: left, old: file(s)}, s, true)
	}
}

// TestOthers: 11.2, files with other names, though nearly the same, are not touched.
func TestOthers(t *testing.T) {
	m := files{}
	for i, name := range []string{"Snap", "snap.", "snap.ne", "snap.new.", "snap.new2", "snap.old", "sna", "snap ", "snap\x00", "snap.New", "new", "hard", "hard.new", "s000000000000005", " snap"} {
		m[name] = file(snap(uint64(i+1), 1, 2, "x"))
	}
	d := synced(t, m)
	misses(t, "11.2: other files", d)
	lies(t, "11.2: other files", d, m)
	waits(t, "11.2: other files", d, 0)
	for _, s := range run(1, 30) {
		saves(t, "11.2: other files", d, s, api.OK)
		opens(t, "11.2: other files", d, s)
	}
	m = m.with(old, new(file(run(30, 30)[0])))
	lies(t, "11.2: other files", d, m)
	d.Append(fresh, []byte("x"))
	opens(t, "11.2: other files", d, run(30, 30)[0])
	lies(t, "11.2: other files", d, m)
}

// TestOpenArgs: 11.2, no disk: ErrArg, each time.
func TestOpenArgs(t *testing.T) {
	fails(t, "11.2: no disk", nil, api.ErrArg)
	fails(t, "11.2: no disk", nil, api.ErrArg)
}
