package hard_test

import (
	"fmt"
	"slices"
	"strings"
	"testing"

	"bursar/api"
	"bursar/disk"
)

// saved answers what is done to a disk with some files while some values are saved.
func saved(m files, some []api.Hard) past {
	p := past{begin: m}
	for _, h := range some {
		p.done = append(p.done, p.now().saving(h)...)
	}
	return p
}

// may fails where Open of what a crash left answers other than what was synced last, or
// one that was saved after it.
func may(t *testing.T, what string, h api.Hard, m files, some []api.Hard) {
	t.Helper()
	last, _ := read(m[old])
	if h != last && !slices.Contains(some, h) {
		t.Errorf("10.3: %s: %v was neither synced nor saved", what, h)
	}
}

// crashes fails where Open, after any crash that may come while some values are saved to
// a disk with the files m, answers other than what was left whole, or leaves other files;
// or where another crash, in the midst of what Open did, changes what it answers.
func crashes(t *testing.T, m files, some []api.Hard) {
	t.Helper()
	p := saved(m, some)
	for keep := range len(p.done) + 1 {
		for torn := range p.torn(keep) {
			what := fmt.Sprintf("%s behind files of %d and %d bytes, Crash(%d, %d)", short(some), len(m[old]), len(m[fresh]), keep, torn)
			d := synced(t, m)
			savesAll(t, what, d, some)
			waits(t, what, d, len(p.done))
			d.Crash(keep, torn)
			left := p.crashed(keep, torn)
			lies(t, what, d, left)
			h, _ := read(p.after(keep)[old])
			may(t, what, h, m, some)
			openings(t, what, d, h, left)
			if t.Failed() {
				return
			}
		}
	}
}

// openings fails where Open of d, on which left lies, does not answer h, or does other
// than the chapter says; or where it does so after it was broken off by a crash.
func openings(t *testing.T, what string, d *disk.Disk, h api.Hard, left files) {
	t.Helper()
	done := left.opening()
	for n := range len(done) + 1 {
		opens(t, what, d, h)
		waits(t, what, d, len(done))
		p := past{left, done}
		lies(t, what, d, p.now())
		d.Crash(n, 0)
		lies(t, what+", and another", d, p.after(n))
		opens(t, what+", and another", d, h)
		lies(t, what+", and another", d, p.now())
		// What was done is taken back, for the next number of operations that are kept.
		d = synced(t, left)
	}
}

// TestCrash: 10.3, after each crash in the midst of some Saves, Open answers what was
// saved by the last one that is whole.
func TestCrash(t *testing.T) {
	for _, m := range []files{
		nil, {old: ""}, {old: file(value(3, 1))}, {old: file(run(1, 20)...)}, {fresh: ""}, {fresh: file(value(8, 2))},
		{old: file(value(3, 1)), fresh: file(value(8, 2))}, {old: file(value(3, 1)), fresh: "x"}, {"other": "x"},
	} {
		for _, some := range [][]api.Hard{
			nil, {value(4, 2)}, {value(300, 0)}, {value(mostNumber, mostNodes)}, {value(0, 0)}, {value(4, 2), value(5, 0), value(mostNumber, 3)}, run(4, 9),
		} {
			crashes(t, m, some)
		}
	}
}

// TestCrashAnew: 10.3, the same, where Save begins the file anew, first, in the midst, at
// the end, and more than once.
func TestCrashAnew(t *testing.T) {
	for _, left := range []string{"none", "", "x", file(value(8, 2)), file(run(8, 40)...)} {
		for _, n := range []int{long - 16, long - 10, long - 1, long, long + 1, 400} {
			m := files{old: file(filling(n)...)}
			if left != "none" {
				m[fresh] = left
			}
			for _, some := range [][]api.Hard{
				{value(4, 2)}, {value(mostNumber, mostNodes)}, {value(4, 2), value(5, 0)}, {value(4, 2), value(4, 2), value(300, 0)}, run(4, 8), run(4, 40),
			} {
				crashes(t, m, some)
			}
		}
	}
}

// TestCrashByHand: 10.3, a Save that begins the file anew, each of its operations lost.
func TestCrashByHand(t *testing.T) {
	for keep, c := range []struct {
		h    api.Hard
		left files
	}{
		{value(26, 2), files{old: file(run(1, 26)...), fresh: "left"}},
		{value(26, 2), files{old: file(run(1, 26)...), fresh: file(value(99, 3))[:5]}},
		{value(26, 2), files{old: file(run(1, 26)...), fresh: file(value(99, 3))}},
		{value(99, 3), files{old: file(value(99, 3))}},
	} {
		d := synced(t, files{old: file(run(1, 26)...), fresh: "left"})
		saves(t, "10.3: by hand", d, value(99, 3), api.OK)
		waits(t, "10.3: by hand", d, 3)
		d.Crash(keep, 5)
		what := fmt.Sprintf("10.3: %d operations are kept", keep)
		lies(t, what, d, c.left)
		opens(t, what, d, c.h)
		lies(t, what, d, files{old: c.left[old]})
	}
}

// TestMended: 10.3, what Open put right may be lost with what was saved behind it, or
// stay while that is lost.
func TestMended(t *testing.T) {
	for _, m := range []files{
		{old: file(value(3, 1)) + file(value(4, 2))[:7]}, {old: file(value(3, 1)), fresh: "x"}, {old: file(value(3, 1)) + "x", fresh: "x"},
		{old: "x"}, {old: file(filling(long)...) + "x"}, {old: file(filling(long)...) + "x", fresh: file(value(8, 2))},
		{old: file(filling(long-10)...) + strings.Repeat("x", 20)}, {old: file(run(1, 3)...) + framed("\x04\x08") + file(run(5, 60)...)},
	} {
		some := row(value(5, 3), value(300, 0))
		p := past{m, m.opening()}
		mended := len(p.done)
		for _, h := range some {
			p.done = append(p.done, p.now().saving(h)...)
		}
		for keep := range len(p.done) + 1 {
			for torn := range p.torn(keep) {
				what := fmt.Sprintf("10.3: mended, saved, Crash(%d, %d)", keep, torn)
				d := synced(t, m)
				last, _ := read(m[old])
				opens(t, what, d, last)
				savesAll(t, what, d, some)
				waits(t, what, d, len(p.done))
				d.Crash(keep, torn)
				lies(t, what, d, p.crashed(keep, torn))
				if keep > mended {
					last, _ = read(p.after(keep)[old])
				}
				openings(t, what, d, last, p.crashed(keep, torn))
			}
		}
	}
}

// TestCrashes: 10.3, one crash after the other, each in the midst of a Save.
func TestCrashes(t *testing.T) {
	for torn := range 20 {
		d := made(t, nil)
		last := value(0, 0)
		for i := range 200 {
			opens(t, "10.3: crash after crash", d, last)
			mended := d.Pending()
			h := value(uint64(i*i*i), i%8)
			saves(t, "10.3: crash after crash", d, h, api.OK)
			if i%4 == 0 {
				d.Sync()
				last = h
				continue
			}
			keep := min(mended+i%4-1, d.Pending())
			if keep == d.Pending() {
				last = h
			}
			d.Crash(keep, torn)
		}
	}
}
