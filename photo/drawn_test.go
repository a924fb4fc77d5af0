package photo_test

import (
	"fmt"
	"math/rand/v2"
	"testing"

	"bursar/api"
	"bursar/disk"
)

// world is a disk, and what must lie on it.
type world struct {
	d    *disk.Disk
	p    past
	room int
	some []api.Snap // saved since it was synced
}

// drawn answers a snapshot; numbers of all lengths are to come up alike often.
func drawn(rnd *rand.Rand) api.Snap {
	n := func() uint64 { return max(rnd.Uint64N(mostNumber+1)>>rnd.IntN(57), 1) }
	b := make([]byte, rnd.IntN(40)*rnd.IntN(5))
	for i := range b {
		b[i] = byte(rnd.IntN(256))
	}
	return snap(n(), n(), 2*rnd.IntN(127)+2, string(b))
}

// allowed answers how many of some operations are done with a fuse, or with none if it is
// below 0, and what error comes then.
func (w *world) allowed(done []operation, fuse int) (int, api.Errno) {
	for i, o := range done {
		if i == fuse {
			return i, api.ErrDown
		}
		if o.size > 0 && o.left.bytes() > w.room {
			return i, api.ErrFull
		}
	}
	return len(done), api.OK
}

// save saves a snapshot, with a fuse that is set or not.
func (w *world) save(t *testing.T, what string, s api.Snap, fuse int) api.Errno {
	t.Helper()
	done := w.p.now().saving(s)
	n, want := w.allowed(done, fuse)
	w.d.Fuse(fuse)
	saves(t, what, w.d, s, want)
	w.d.Fuse(-1)
	w.p.done = append(w.p.done, done[:n]...)
	if want == api.OK {
		w.some = append(w.some, s)
	}
	return want
}

// open opens the disk, with a fuse that is set or not.
func (w *world) open(t *testing.T, what string, fuse int) {
	t.Helper()
	done := w.p.now().opening()
	n, want := w.allowed(done, fuse)
	w.d.Fuse(fuse)
	if want == api.OK {
		finds(t, what, w.d, w.p.now())
	} else {
		fails(t, what, w.d, want)
	}
	w.d.Fuse(-1)
	w.p.done = append(w.p.done, done[:n]...)
}

// crash crashes the disk.
func (w *world) crash(t *testing.T, what string, rnd *rand.Rand) {
	t.Helper()
	keep, torn := rnd.IntN(len(w.p.done)+1), rnd.IntN(200)
	w.d.Crash(keep, torn)
	begin := w.p.begin
	w.p = past{begin: w.p.crashed(keep, torn)}
	may(t, what+", a crash", w.p.begin, begin, w.some)
	w.some = nil
}

// step does one thing that is drawn.
func (w *world) step(t *testing.T, what string, rnd *rand.Rand) (e api.Errno) {
	t.Helper()
	switch rnd.IntN(16) {
	case 0, 1:
		w.d.Sync()
		w.p, w.some = past{begin: w.p.now()}, nil
	case 2:
		w.open(t, what, -1)
	case 3, 4:
		w.crash(t, what, rnd)
	case 5, 6:
		e = w.save(t, what, drawn(rnd), rnd.IntN(4))
	case 7:
		w.open(t, what, rnd.IntN(2))
	default:
		e = w.save(t, what, drawn(rnd), -1)
	}
	if w.d.Down() {
		w.crash(t, what, rnd)
		if rnd.IntN(2) == 0 {
			w.open(t, what, rnd.IntN(3)-1)
		}
	}
	if w.d.Down() {
		w.crash(t, what, rnd)
	}
	return e
}

// TestDrawn: 11.2 and 11.3, many Saves, Opens, fuses, rooms and crashes, held against the
// chapter's words.
func TestDrawn(t *testing.T) {
	var came [4]int
	for seed := range uint64(300) {
		rnd := rand.New(rand.NewPCG(11, seed))
		w := &world{d: made(t, nil), p: past{begin: files{}}, room: 100 + rnd.IntN(300)}
		w.d.Room(w.room)
		for i := range 150 {
			what := fmt.Sprintf("drawn: seed %d, step %d", seed, i)
			came[w.step(t, what, rnd)]++
			lies(t, what, w.d, w.p.now())
			waits(t, what, w.d, len(w.p.done))
			if t.Failed() {
				return
			}
		}
	}
	if came[api.OK] < 1000 || came[api.ErrFull] < 1000 || came[api.ErrDown] < 1000 {
		t.Errorf("drawn: OK %d times, ErrFull %d, ErrDown %d", came[api.OK], came[api.ErrFull], came[api.ErrDown])
	}
}

// spoil changes s at one place.
func spoil(rnd *rand.Rand, s string) string {
	at := rnd.IntN(len(s) + 1)
	switch rnd.IntN(4) {
	case 0:
		return s[:at]
	case 1:
		return s[:at] + string([]byte{byte(rnd.IntN(256))}) + s[at:]
	case 2:
		return s
	}
	b := []byte(s)
	if at < len(b) {
		b[at] ^= 1 << rnd.IntN(8)
	}
	return string(b)
}

// TestDrawnFiles: 11.2, files that are nearly those that Save leaves, held against a
// reading of the chapter.
func TestDrawnFiles(t *testing.T) {
	there := 0
	for seed := range uint64(9000) {
		rnd := rand.New(rand.NewPCG(110, seed))
		// What is spoilt is the snapshot, of which the checksum is right then, or the frame.
		s := framed(spoil(rnd, laid(drawn(rnd))))
		if rnd.IntN(2) == 0 {
			s = spoil(rnd, s)
		}
		m := files{old: s}
		if rnd.IntN(2) == 0 {
			m[fresh] = file(drawn(rnd))
		}
		x, ok := read(s)
		if ok {
			there++
		}
		holds(t, fmt.Sprintf("11.2: drawn files, seed %d", seed), m, x, ok)
		if t.Failed() {
			return
		}
	}
	if there < 2000 || there > 7000 {
		t.Errorf("11.2: drawn files, %d of which hold a snapshot", there)
	}
}

// TestReading: 11.2, what the tests take for the chapter's reading, by hand.
func TestReading(t *testing.T) {
	for _, c := range []struct {
		s  string
		x  api.Snap
		ok bool
	}{
		{"", api.Snap{}, false},
		{"\x06\x00\x00\x00" + framed("\x04\x02\x0e\x02ab")[4:], snap(4, 2, 14, "ab"), true},
		{framed("\xac\x02\x02\xfe\x00"), snap(300, 2, 254, ""), true},
		{framed("\x04\x02\x0e\x02ab") + "x", api.Snap{}, false},
		{framed("\x04\x02\x0e\x02ab") + framed("\x04\x02\x0e\x02ab"), api.Snap{}, false},
		{framed("\x04\x02\x0e\x02ab")[:13], api.Snap{}, false},
		{framed("\x84\x00\x02\x0e\x02ab"), api.Snap{}, false},
		{framed("\x04\x02\x0f\x02ab"), api.Snap{}, false},
		{framed("\x04\x02\x0e\x02abc"), api.Snap{}, false},
	} {
		if x, ok := read(c.s); !same(x, c.x) || ok != c.ok {
			t.Errorf("11.2: % x is read as %s %v", c.s, short(x), ok)
		}
	}
}
