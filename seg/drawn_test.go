package seg_test

import (
	"fmt"
	"math/rand/v2"
	"strings"
	"testing"

	"bursar/api"
	"bursar/disk"
	"bursar/seg"
)

// world is a Disk, its Log, and how they should lie.
type world struct {
	d     *disk.Disk
	l     *seg.Log
	limit int
	room  int
	past  []parts           // since it was synced, the synced one first
	torn  map[string]string // what lies there synced, where that is more than past tells
}

func (w *world) now() parts { return w.past[len(w.past)-1] }

// drawn answers entries that mostly may be and follow what w holds.
func (w *world) drawn(rnd *rand.Rand) []api.Entry {
	term, index := uint64(1+rnd.IntN(3)), uint64(1+rnd.IntN(200))
	if all := w.now().entries(); len(all) > 0 {
		last := all[len(all)-1]
		term, index = last.Term, last.Index+1
	}
	var some []api.Entry
	for range rnd.IntN(6) {
		if rnd.IntN(3) == 0 {
			term++
		}
		x := command(term, index, strings.Repeat("d", 1+rnd.IntN(40)))
		switch rnd.IntN(8) {
		case 0:
			x = none(term, index)
		case 1:
			x = conf(term, index, 2*rnd.IntN(128))
		}
		some = append(some, x)
		index++
	}
	if len(some) > 0 && rnd.IntN(6) == 0 {
		x := &some[rnd.IntN(len(some))]
		x.Term += uint64(rnd.IntN(3)) - 1
		x.Index += uint64(rnd.IntN(3)) - 1
	}
	return some
}

// call answers a call that is drawn.
func (w *world) call(rnd *rand.Rand) call {
	first, last := uint64(0), uint64(0)
	if all := w.now().entries(); len(all) > 0 {
		first, last = all[0].Index, all[len(all)-1].Index
	}
	index := max(first, 2) - 2 + rnd.Uint64N(last-first+5)
	switch rnd.IntN(20) {
	case 0:
		return reset()
	case 1, 2, 3:
		return cut(index)
	case 4:
		return cut(max(last, 3) - 2)
	case 5, 6, 7:
		return drop(index)
	}
	return add(w.drawn(rnd)...)
}

// ask asks c, with a fuse that is set or not, and reckons what must come of it.
func (w *world) ask(t *testing.T, what string, c call, fuse int) {
	t.Helper()
	if e := c.fault(w.now()); e != api.OK {
		asks(t, what, w.l, c, e)
		return
	}
	steps, want := c.steps(w.now(), w.limit), api.OK
	for i, p := range steps {
		if i == fuse {
			steps, want = steps[:i], api.ErrDown
			break
		}
		if c.what == "Append" && (p.bytes() > w.room || len(p) > mostFiles) {
			steps, want = steps[:i], api.ErrFull
			break
		}
	}
	w.d.Fuse(fuse)
	asks(t, what, w.l, c, want)
	w.d.Fuse(-1)
	w.past = append(w.past, steps...)
	if want == api.ErrFull {
		w.l = opened(t, w.d, w.limit)
	}
}

// crash crashes the disk and opens the log anew.
func (w *world) crash(t *testing.T, what string, keep, torn int) {
	t.Helper()
	w.d.Crash(keep, torn)
	m := leftBy(w.past, keep, torn)
	if keep == 0 && w.torn != nil {
		m = w.torn
	}
	lies(t, what+", a crash", w.d, m)
	p := w.past[keep]
	all, left := read(m)
	w.l = opened(t, w.d, w.limit)
	if !same(all, p.entries()) {
		t.Errorf("%s: what was left of the disk is read as %s", what, short(all))
	}
	lies(t, what+", opened anew", w.d, left)
	w.past, w.torn = []parts{p}, nil
	// Where a part of an operation was left, that was taken away by another.
	if w.d.Pending() > 0 {
		w.past, w.torn = []parts{p, p}, m
	}
}

// TestDrawn: 9.1 to 9.6, many calls, fuses, rooms, crashes and openings, held against plain.
func TestDrawn(t *testing.T) {
	for seed := range uint64(200) {
		rnd := rand.New(rand.NewPCG(9, seed))
		w := &world{d: blank(t), limit: 64 + rnd.IntN(200), room: 400 + rnd.IntN(3000), past: []parts{nil}}
		w.d.Room(w.room)
		w.l = opened(t, w.d, w.limit)
		for i := range 120 {
			what := fmt.Sprintf("drawn: seed %d, step %d", seed, i)
			switch rnd.IntN(12) {
			case 0:
				w.d.Sync()
				w.past, w.torn = w.past[len(w.past)-1:], nil
			case 1:
				w.limit = 64 + rnd.IntN(200)
				w.l = opened(t, w.d, w.limit)
			case 2:
				w.crash(t, what, rnd.IntN(len(w.past)), rnd.IntN(60))
			case 3:
				if w.ask(t, what, w.call(rnd), rnd.IntN(4)); w.d.Down() {
					w.crash(t, what, rnd.IntN(len(w.past)), rnd.IntN(60))
				}
			default:
				w.ask(t, what, w.call(rnd), -1)
			}
			holds(t, what, w.l, w.now().entries())
			lies(t, what, w.d, w.now().files())
			if w.d.Pending() != len(w.past)-1 {
				t.Errorf("9.5: %s: %d operations, not %d", what, w.d.Pending(), len(w.past)-1)
			}
			if t.Failed() {
				return
			}
		}
	}
}

// spoil changes one file of m, or one name.
func spoil(rnd *rand.Rand, m map[string]string) {
	var first uint64
	for range rnd.IntN(4) {
		first = 1 + rnd.Uint64N(12)
	}
	s := []byte(m[name(first)])
	at := rnd.IntN(len(s) + 1)
	switch rnd.IntN(6) {
	case 0:
		delete(m, name(first))
		return
	case 1:
		s = s[:at]
	case 2:
		s = append(s, byte(rnd.IntN(256)))
	case 3:
		s = append(s, file(none(1+rnd.Uint64N(3), 1+rnd.Uint64N(12)))...)
	case 4:
		m[name(first+1)], s = string(s), []byte(m[name(first+1)])
	case 5:
		if at < len(s) {
			s[at] ^= 1 << rnd.IntN(8)
		}
	}
	m[name(first)] = string(s)
}

// TestDrawnFiles: 9.2, files that are nearly those of a log, held against a reading of
// the chapter.
func TestDrawnFiles(t *testing.T) {
	kinds := map[string]int{}
	for seed := range uint64(6000) {
		rnd := rand.New(rand.NewPCG(99, seed))
		m := map[string]string{"other": "x"}
		first, term := uint64(1+rnd.IntN(3)), uint64(1)
		for range 1 + rnd.IntN(4) {
			var some []api.Entry
			for range 1 + rnd.IntN(3) {
				if rnd.IntN(3) == 0 {
					term++
				}
				some = append(some, none(term, first+uint64(len(some))))
			}
			m[name(first)] = file(some...)
			first += uint64(len(some))
		}
		for range rnd.IntN(3) {
			spoil(rnd, m)
		}
		want, left := read(m)
		opens(t, fmt.Sprintf("9.2: drawn, seed %d", seed), m, want, left)
		if t.Failed() {
			return
		}
		kinds[fmt.Sprint(len(want) == 0, len(m)-len(left))]++
	}
	if len(kinds) < 6 {
		t.Errorf("9.2: too few kinds were drawn: %v", kinds)
	}
}
