package hard_test

import (
	"fmt"
	"math/rand/v2"
	"testing"

	"bursar/api"
	"bursar/disk"
)

// world is a disk, and what must lie on it.
type world struct {
	d    *disk.Disk
	p    past
	room int
	some []api.Hard // saved since it was synced, whole or not
}

// drawn answers a value; lengths of all kinds are to come up alike often.
func drawn(rnd *rand.Rand) api.Hard {
	return value(rnd.Uint64N(mostNumber+1)>>rnd.IntN(57), rnd.IntN(mostNodes+1))
}

// bytes answers how many bytes all files have.
func (m files) bytes() (n int) {
	for _, s := range m {
		n += len(s)
	}
	return n
}

// allowed answers how many of some operations are done with a fuse, or with none if it is
// below 0, and what error comes then.
func (w *world) allowed(done []operation, fuse int) (int, api.Errno) {
	for i, o := range done {
		if i == fuse {
			return i, api.ErrDown
		}
		if o.size > 0 && o.left.bytes() > w.room {
			return i, api.ErrFull
		}
	}
	return len(done), api.OK
}

// save saves a value, with a fuse that is set or not.
func (w *world) save(t *testing.T, what string, h api.Hard, fuse int) {
	t.Helper()
	done := w.p.now().saving(h)
	n, want := w.allowed(done, fuse)
	w.d.Fuse(fuse)
	saves(t, what, w.d, h, want)
	w.d.Fuse(-1)
	w.p.done = append(w.p.done, done[:n]...)
	w.some = append(w.some, h)
}

// open opens the disk, with a fuse that is set or not.
func (w *world) open(t *testing.T, what string, fuse int) {
	t.Helper()
	done := w.p.now().opening()
	n, want := w.allowed(done, fuse)
	w.d.Fuse(fuse)
	if want == api.OK {
		opens(t, what, w.d, tells(w.p.now()))
	} else {
		fails(t, what, w.d, want)
	}
	w.d.Fuse(-1)
	w.p.done = append(w.p.done, done[:n]...)
}

// crash crashes the disk.
func (w *world) crash(t *testing.T, what string, rnd *rand.Rand) {
	t.Helper()
	keep, torn := rnd.IntN(len(w.p.done)+1), rnd.IntN(60)
	w.d.Crash(keep, torn)
	begin := w.p.begin
	w.p = past{begin: w.p.crashed(keep, torn)}
	may(t, what+", a crash", tells(w.p.begin), begin, w.some)
	w.some = nil
}

// TestDrawn: 10.2 and 10.3, many Saves, Opens, fuses, rooms and crashes, held against the
// chapter's words.
func TestDrawn(t *testing.T) {
	for seed := range uint64(400) {
		rnd := rand.New(rand.NewPCG(10, seed))
		w := &world{d: made(t, nil), p: past{begin: files{}}, room: 200 + rnd.IntN(300)}
		w.d.Room(w.room)
		for i := range 150 {
			what := fmt.Sprintf("drawn: seed %d, step %d", seed, i)
			switch rnd.IntN(16) {
			case 0:
				w.d.Sync()
				w.p, w.some = past{begin: w.p.now()}, nil
			case 1, 2:
				w.open(t, what, -1)
			case 3:
				w.crash(t, what, rnd)
				w.open(t, what, -1)
			case 4:
				w.save(t, what, drawn(rnd), rnd.IntN(4))
			case 5:
				w.open(t, what, rnd.IntN(3))
			default:
				w.save(t, what, drawn(rnd), -1)
			}
			if w.d.Down() {
				w.crash(t, what, rnd)
				w.open(t, what, -1)
			}
			lies(t, what, w.d, w.p.now())
			waits(t, what, w.d, len(w.p.done))
			if t.Failed() {
				return
			}
		}
	}
}

// spoil changes s at one place.
func spoil(rnd *rand.Rand, s string) string {
	at := rnd.IntN(len(s) + 1)
	switch rnd.IntN(5) {
	case 0:
		return s[:at]
	case 1:
		return s[:at] + string([]byte{byte(rnd.IntN(256))}) + s[at:]
	case 2:
		return s + framed(string([]byte{byte(rnd.IntN(256)), byte(rnd.IntN(12))}))
	case 3:
		return s + framed(laid(drawn(rnd))+"x"[rnd.IntN(2):])
	}
	b := []byte(s)
	if at < len(b) {
		b[at] ^= 1 << rnd.IntN(8)
	}
	return string(b)
}

// TestDrawnFiles: 10.2, files that are nearly those that Save leaves, held against a
// reading of the chapter.
func TestDrawnFiles(t *testing.T) {
	mended := 0
	for seed := range uint64(5000) {
		rnd := rand.New(rand.NewPCG(100, seed))
		m := files{old: ""}
		for range rnd.IntN(9) {
			m[old] += file(drawn(rnd))
		}
		for range rnd.IntN(3) {
			m[old] = spoil(rnd, m[old])
		}
		if rnd.IntN(2) == 0 {
			m[fresh] = file(drawn(rnd))
		}
		h, left := read(m[old])
		if left != m[old] {
			mended++
		}
		mends(t, fmt.Sprintf("10.2: drawn files, seed %d", seed), m, h, files{old: left})
		if t.Failed() {
			return
		}
	}
	if mended < 1000 || mended > 4000 {
		t.Errorf("10.2: drawn files, of which %d are mended", mended)
	}
}
