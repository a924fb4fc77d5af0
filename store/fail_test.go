package store_test

import (
	"fmt"
	"testing"

	"bursar/api"
)

// storing answers steps that a store of five takes.
func storing() []step {
	h, other := votes(5, 3), votes(6, 1)
	return []step{
		saving(other, 0), saving(h, 10, run(5, 10, 12)...), saving(other, 10, sized(5, 10, 40)), saving(other, 8, sized(3, 8, 34), sized(4, 9, 60)),
		saving(h, 7, run(2, 7, 7)...), saving(other, 5, run(4, 5, 9)...), saving(h, 2, run(4, 2, 2)...),
		photo(snap(8, 3, "xyz"), true), photo(snap(9, 5, "a longer one, with more bytes in it"), true), photo(snap(20, 5, "xyz"), false), photo(snap(7, 3, ""), false),
	}
}

// places answers files of stores that tell alike, on which a step does more or less.
func places() []files {
	full := votes(4, 1)
	var many []api.Hard
	for len(hards(many...)) < long-10 {
		many = append(many, full)
	}
	many = append(many, votes(5, 3))
	m := five()
	return []files{m, m.with(hardName, hards(many...)), m.with(snapNew, "left"), m.with("other", "x")}
}

// TestFull: 12.4, a disk that lacks room: the first error of the steps, and nothing behind
// it is done; a store that is opened anew goes on, with a crash or without.
func TestFull(t *testing.T) {
	for i, m := range places() {
		for _, x := range storing() {
			_, k, first := opening(m, leastLimit)
			p := past{begin: m}.then(first)
			_, _, some := k.asked(p.now(), x)
			for room := range p.now().bytes() + 160 {
				n, want := outcome(some, -1, room)
				// Each place at which it may fail is tried at its edges alone.
				if less, _ := outcome(some, -1, room-1); room > 0 && less == n {
					if more, _ := outcome(some, -1, room+1); more == n {
						continue
					}
				}
				what := fmt.Sprintf("12.4: files %d, a room of %d", i, room)
				d, s := ready(t, what, m)
				d.Room(room)
				asks(t, what, s, x, want)
				left := p.then(some[:n])
				lies(t, what, d, left.now())
				if d.Pending() != len(left.done) {
					t.Errorf("%s: %v: %d operations, not %d", what, x, d.Pending(), len(left.done))
				}
				d.Room(mostRoom)
				got, _, _ := opening(left.now(), leastLimit)
				opens(t, what+", opened anew", d, got)
				if t.Failed() {
					return
				}
			}
		}
	}
}

// TestFiles: 12.4, a disk that has as many files as it may: ErrFull where a file would be
// one more.
func TestFiles(t *testing.T) {
	for i, m := range append(places(), nil, stored(votes(5, 3), api.Snap{}), stored(votes(0, 0), snap(4, 2, ""))) {
		for _, more := range []int{0, 1, 2} {
			m := m
			for j := len(m); j < mostFiles-more; j++ {
				m = m.with(fmt.Sprint("z", j), "")
			}
			for _, x := range append(storing(), saving(votes(6, 1), 8, run(4, 8, 12)...)) {
				_, k, first := opening(m, leastLimit)
				p := past{begin: m}.then(first)
				may, _, some := k.asked(p.now(), x)
				if !may {
					continue
				}
				n, want := outcome(some, -1, mostRoom)
				what := fmt.Sprintf("12.4: files %d, %d more", i, more)
				d, s := ready(t, what, m)
				asks(t, what, s, x, want)
				lies(t, what, d, p.then(some[:n]).now())
			}
		}
	}
}

// TestFirstError: 12.2 to 12.4, of two errors of the disk it is the first that is answered,
// and a wrong argument ahead of both.
func TestFirstError(t *testing.T) {
	m := five()
	for _, x := range storing() {
		_, k, _ := opening(m, leastLimit)
		_, _, some := k.asked(m, x)
		for fuse := range len(some) + 1 {
			for _, room := range []int{0, m.bytes(), m.bytes() + 9, m.bytes() + 12, m.bytes() + 40, m.bytes() + 50, mostRoom} {
				_, want := outcome(some, fuse, room)
				d, s := ready(t, "12.4", m)
				d.Room(room)
				d.Fuse(fuse)
				asks(t, "12.2: ahead of the disk's errors", s, saving(votes(6, 8), 0), api.ErrArg)
				asks(t, "12.2: ahead of the disk's errors", s, saving(votes(6, 1), 10, none(5, 11)), api.ErrArg)
				asks(t, "12.3: ahead of the disk's errors", s, photo(api.Snap{}, true), api.ErrArg)
				asks(t, fmt.Sprintf("12.4: a fuse of %d, a room of %d", fuse, room), s, x, want)
			}
		}
	}
}

// TestRoom: 12.2 and 12.3, a snapshot needs room beside the old one and the log, but
// entries are laid where others were cut off.
func TestRoom(t *testing.T) {
	m := five()
	p := snap(9, 5, "ab")
	d, s := ready(t, "12.3", m)
	d.Room(m.bytes() + len(image(p)) - 1)
	asks(t, "12.3: a byte too few", s, photo(p, false), api.ErrFull)
	d, s = ready(t, "12.3", m)
	d.Room(m.bytes() + len(image(p)))
	asks(t, "12.3: just room", s, photo(p, false), api.OK)
	lies(t, "12.3: just room", d, stored(votes(5, 3), p))
	d, s = ready(t, "12.2", m)
	d.Room(m.bytes())
	asks(t, "12.2: as many in place of others", s, saving(votes(5, 3), 7, run(3, 7, 9)...), api.OK)
	asks(t, "12.2: one more", s, saving(votes(5, 3), 10, none(3, 10)), api.ErrFull)
}

// TestGone: 12.2 and 12.3, files that are gone when they are to be taken away or cut off:
// that error is answered too, and nothing is done behind it.
func TestGone(t *testing.T) {
	for _, c := range []struct {
		gone    uint64
		x       step
		pending int
	}{
		{5, photo(snap(6, 2, ""), true), 0}, {9, photo(snap(6, 2, ""), false), 0}, {7, photo(snap(6, 2, ""), false), 1},
		{9, saving(votes(6, 1), 9, none(5, 9)), 2}, {7, saving(votes(6, 1), 8, none(5, 8)), 3},
	} {
		d, s := ready(t, "12.4", five())
		d.Remove(name(c.gone))
		asks(t, fmt.Sprintf("12.4: the segment %d is gone", c.gone), s, c.x, api.ErrNone)
		if d.Pending() != c.pending {
			t.Errorf("12.4: the segment %d is gone, %v: %d operations, not %d", c.gone, c.x, d.Pending(), c.pending)
		}
	}
}

// TestDownLater: 12.4, a disk that is down, and a store that was opened ahead of that.
func TestDownLater(t *testing.T) {
	for _, x := range storing() {
		d, s := ready(t, "12.4", five())
		d.Fuse(0)
		d.Sync()
		asks(t, "12.4: a disk that is down", s, x, api.ErrDown)
		refuses(t, "12.4: a disk that is down", d, leastLimit, api.ErrDown)
		d.Crash(0, 0)
		lies(t, "12.4: a disk that was down", d, five())
		want, _, _ := opening(five(), leastLimit)
		s = opens(t, "12.4: a disk that was down", d, want)
		asks(t, "12.4: a disk that was down", s, x, api.OK)
	}
}

// TestAfterErrors: R1, whatever a store answers after an error of the disk, or after a
// crash, it answers; and one that is opened anew then works.
func TestAfterErrors(t *testing.T) {
	for fuse := range 8 {
		for up := range storing() {
			d, s := ready(t, "R1", five())
			d.Fuse(fuse)
			for i, x := range storing() {
				if i == up {
					d.Crash(fuse, 3)
				}
				x.on(s)
				s.Last()
			}
			d.Crash(1, 2)
			s, _ = opened(t, "R1", d, leastLimit)
			next := s.Last() + 1
			asks(t, "R1: opened anew", s, saving(votes(99, 1), next, none(99, next)), api.OK)
			asks(t, "R1: opened anew", s, photo(snap(99, 99, ""), false), api.OK)
			opens(t, "R1: opened anew", d, told(votes(99, 1), snap(99, 99, "")))
		}
	}
}
