package store_test

import (
	"fmt"
	"math/rand/v2"
	"strings"
	"testing"

	"bursar/api"
	"bursar/disk"
	"bursar/store"
)

// world is a Disk, the store on it, and how they should lie.
type world struct {
	d    *disk.Disk
	s    *store.Store
	room int
	k    kept
	past past
	got  store.Got   // by 12.5: what is to be told, as long as all steps follow
	may  []store.Got // or one of these, behind a step that was broken off

	// written: the Hard that was told lies in the file. One whose term was raised is told
	// only as long as that stays by which it was raised.
	written bool
}

// drawn answers entries that mostly may come from an index on.
func (w *world) drawn(rnd *rand.Rand, from uint64) []api.Entry {
	term := max(w.k.log.term(from-1), 1)
	if rnd.IntN(9) == 0 && term > 1 {
		term--
	}
	var some []api.Entry
	for i := range uint64(rnd.IntN(5)) {
		if rnd.IntN(4) == 0 {
			term++
		}
		x := command(term, from+i, strings.Repeat("d", 1+rnd.IntN(40)))
		switch rnd.IntN(8) {
		case 0:
			x = none(term, from+i)
		case 1:
			x = conf(term, from+i, 2*rnd.IntN(128))
		}
		some = append(some, x)
	}
	if len(some) > 0 && rnd.IntN(12) == 0 {
		x := &some[rnd.IntN(len(some))]
		x.Term += uint64(rnd.IntN(3)) - 1
		x.Index += uint64(rnd.IntN(3)) - 1
	}
	return some
}

// step answers a step that is drawn, which mostly follows, but need not.
func (w *world) step(rnd *rand.Rand) step {
	first, last := w.k.log.ends()
	base := w.past.base().Index
	if rnd.IntN(5) == 0 {
		index := max(base, 2) - 1 + rnd.Uint64N(last-min(base, last)+4)
		p := snap(index, max(w.k.log.term(index), 1), strings.Repeat("p", rnd.IntN(60)))
		if rnd.IntN(4) == 0 {
			p.Base.Term = uint64(rnd.IntN(9))
		}
		return photo(p, rnd.IntN(3) > 0)
	}
	from := max(last, base) + 1
	switch rnd.IntN(8) {
	case 0, 1, 2:
		from = max(first, base, 1) + rnd.Uint64N(last-min(max(first, base), last)+1)
	case 3:
		from = max(first, 2) - 2 + rnd.Uint64N(last-first+5)
	}
	x := saving(w.k.hard, from, w.drawn(rnd, from)...)
	if n := len(x.entries); n > 0 && x.entries[n-1].Term > x.hard.Term && rnd.IntN(9) > 0 {
		x.hard = votes(x.entries[n-1].Term, 0)
	}
	switch rnd.IntN(4) {
	case 0:
		x.hard = votes(x.hard.Term, rnd.IntN(8))
	case 1:
		x.hard = votes(x.hard.Term+1, rnd.IntN(9)-rnd.IntN(2))
	}
	return x
}

// base answers the base of the snapshot that lies there.
func (p past) base() api.Base { return readSnap(p.now()[snapName]).Base }

// open opens the store anew, and reckons what must come of it.
func (w *world) open(t *testing.T, what string) {
	t.Helper()
	want, k, some := opening(w.past.now(), w.k.limit)
	s, got := opened(t, what, w.d, w.k.limit)
	if !alike(got, want) {
		t.Errorf("%s: Open tells %s, not %s", what, short(got), short(want))
	}
	if w.may != nil {
		one(t, what, got, w.may)
	}
	w.s, w.k, w.past = s, k, w.past.then(some)
	w.got, w.may = got, []store.Got{got}
	h, _ := readHards(w.past.now()[hardName])
	w.written = h == got.Hard
}

// ask asks x, with a fuse that is set or not, and reckons what must come of it; it tells
// whether the store is to be opened anew.
func (w *world) ask(t *testing.T, what string, x step, fuse int) bool {
	t.Helper()
	ok, k, some := w.k.asked(w.past.now(), x)
	if !ok {
		asks(t, what, w.s, x, api.ErrArg)
		return false
	}
	n, want := outcome(some, fuse, w.room)
	w.d.Fuse(fuse)
	asks(t, what, w.s, x, want)
	if want != api.ErrDown {
		w.d.Fuse(-1)
	}
	w.past = w.past.then(some[:n])
	switch {
	case w.may == nil || !w.written || !follows(w.got, x):
		w.may = nil
	case want == api.OK:
		w.got = after(w.got, x)
		w.may = []store.Got{w.got}
	default:
		w.may = broken(w.got, x)
	}
	if want == api.OK {
		w.k = k
	}
	return want != api.OK
}

// crash crashes the disk, and opens the store anew.
func (w *world) crash(t *testing.T, what string, keep, torn int) {
	t.Helper()
	w.d.Crash(keep, torn)
	w.past = past{begin: w.past.crashed(keep%(len(w.past.done)+1), torn)}
	lies(t, what+", a crash", w.d, w.past.now())
	w.open(t, what+", a crash")
}

// TestDrawn: 12.1 to 12.5, many steps, fuses, rooms, crashes and openings, held against
// what the chapters tell, and, as long as each step follows, against the theorem.
func TestDrawn(t *testing.T) {
	kinds := map[string]int{}
	for seed := range uint64(300) {
		rnd := rand.New(rand.NewPCG(12, seed))
		w := &world{d: made(t, nil), room: 300 + rnd.IntN(1500), k: kept{limit: 64 + rnd.IntN(150)}, may: []store.Got{{}}}
		w.d.Room(w.room)
		w.open(t, "drawn: at the beginning")
		for i := range 80 {
			what := fmt.Sprintf("drawn: seed %d, step %d", seed, i)
			fuse := -1
			switch rnd.IntN(9) {
			case 0:
				w.crash(t, what, rnd.IntN(9), rnd.IntN(60))
			case 1:
				w.k.limit = 64 + rnd.IntN(150)
				w.open(t, what)
			case 2, 3:
				fuse = rnd.IntN(8)
			}
			x := w.step(rnd)
			if w.ask(t, what, x, fuse) {
				if w.d.Down() || rnd.IntN(2) == 0 {
					w.crash(t, what, rnd.IntN(9), rnd.IntN(60))
				} else {
					w.open(t, what)
				}
				kinds["broken off "+x.what]++
			}
			if _, last := w.k.log.ends(); w.s.Last() != last || w.d.Pending() != len(w.past.done) {
				t.Errorf("%s: Last %d, not %d; %d operations, not %d", what, w.s.Last(), last, w.d.Pending(), len(w.past.done))
			}
			lies(t, what, w.d, w.past.now())
			if t.Failed() {
				return
			}
			kinds[fmt.Sprint("theorem ", w.may != nil)]++
			kinds[fmt.Sprint("entries ", w.may != nil && len(w.got.Entries) > 2)]++
		}
	}
	for _, kind := range []string{"broken off Save", "broken off Photo", "theorem true", "theorem false", "entries true"} {
		if kinds[kind] < 300 {
			t.Errorf("12.5: too few were drawn: %v", kinds)
		}
	}
}

// spoil changes one file of m, or one name.
func spoil(rnd *rand.Rand, m files) files {
	names := []string{hardName, snapName, hardNew, snapNew}
	for first := range uint64(12) {
		names = append(names, name(first+1))
	}
	n := names[rnd.IntN(len(names))]
	s := []byte(m[n])
	at := rnd.IntN(len(s) + 1)
	switch rnd.IntN(6) {
	case 0:
		return m.without(n)
	case 1:
		s = s[:at]
	case 2:
		s = append(s, byte(rnd.IntN(256)))
	case 3:
		s = append(s, hards(votes(rnd.Uint64N(9), rnd.IntN(9)))...)
	case 4:
		s = append(s, segment(none(1+rnd.Uint64N(5), 1+rnd.Uint64N(12)))...)
	case 5:
		if at < len(s) {
			s[at] ^= 1 << rnd.IntN(8)
		}
	}
	return m.with(n, string(s))
}

// TestDrawnFiles: 12.1, files that are nearly those of a store, and bases that nearly match
// its log, held against a reading of the chapters.
func TestDrawnFiles(t *testing.T) {
	kinds := map[string]int{}
	for seed := range uint64(6000) {
		rnd := rand.New(rand.NewPCG(121, seed))
		m := files{}
		if rnd.IntN(4) > 0 {
			m[hardName] = hards(votes(rnd.Uint64N(5), rnd.IntN(8)), votes(rnd.Uint64N(5), rnd.IntN(8)))
		}
		first, term := 1+rnd.Uint64N(3), 1+rnd.Uint64N(2)
		if rnd.IntN(4) > 0 {
			m[snapName] = image(snap(first-min(first-1, 1)+rnd.Uint64N(5), term+rnd.Uint64N(2), "ab"))
		}
		for range rnd.IntN(4) {
			var some []api.Entry
			for range 1 + rnd.IntN(3) {
				term += uint64(rnd.IntN(3) / 2)
				some = append(some, none(term, first+uint64(len(some))))
			}
			m[name(first)] = segment(some...)
			first += uint64(len(some))
		}
		for range rnd.IntN(3) {
			m = spoil(rnd, m)
		}
		tells(t, fmt.Sprintf("drawn, seed %d", seed), m)
		if t.Failed() {
			return
		}
		want, k, _ := opening(m, leastLimit)
		kinds[fmt.Sprint(len(want.Entries) > 0, len(k.log) > 0, want.Snap.Base.Index > 0)]++
	}
	if len(kinds) < 5 {
		t.Errorf("12.1: too few kinds were drawn: %v", kinds)
	}
}
