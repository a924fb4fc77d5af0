package store_test

import (
	"fmt"
	"slices"
	"testing"

	"bursar/api"
	"bursar/store"
)

// after reads 12.5: what is to be told behind a step that went well.
func after(g store.Got, x step) store.Got {
	switch {
	case x.what == "Save" && len(x.entries) == 0:
		return told(x.hard, g.Snap, g.Entries...)
	case x.what == "Save":
		return told(x.hard, g.Snap, append(ahead(g.Entries, x.from), x.entries...)...)
	case x.keep:
		return told(g.Hard, x.snap, behind(g.Entries, x.snap)...)
	}
	return told(g.Hard, x.snap)
}

// ahead answers those entries that come ahead of an index, in memory of their own.
func ahead(some []api.Entry, index uint64) (left []api.Entry) {
	for _, x := range some {
		if x.Index < index {
			left = append(left, x)
		}
	}
	return left
}

// behind answers those entries that come behind a snapshot.
func behind(some []api.Entry, p api.Snap) (left []api.Entry) {
	for _, x := range some {
		if x.Index > p.Base.Index {
			left = append(left, x)
		}
	}
	return left
}

// broken reads 12.5: all that may be told behind a step that was broken off. Of entries
// that it was to take away, those behind may be gone while others ahead of them are not.
func broken(g store.Got, x step) []store.Got {
	may := []store.Got{g}
	if x.what == "Photo" {
		return append(may, append(parted(told(g.Hard, x.snap, behind(g.Entries, x.snap)...), 0, x.keep), after(g, x))...)
	}
	may = append(may, parted(told(x.hard, g.Snap, g.Entries...), x.from, len(x.entries) == 0)...)
	for i := range x.entries {
		may = append(may, told(x.hard, g.Snap, append(ahead(g.Entries, x.from), x.entries[:i+1]...)...))
	}
	return may
}

// parted answers g, and, unless all are kept, g without the last of its entries, without
// the last two, and so on, as far as an index.
func parted(g store.Got, from uint64, all bool) []store.Got {
	may := []store.Got{g}
	for n := len(g.Entries); n > 0 && !all && g.Entries[n-1].Index >= from; n-- {
		may = append(may, told(g.Hard, g.Snap, g.Entries[:n-1]...))
	}
	return may
}

// follows tells whether 12.5 speaks of x behind what g tells: it is such a step as comes
// of a log that goes on behind its snapshot, in terms that are known.
func follows(g store.Got, x step) bool {
	first, last, least := g.Snap.Base.Index+1, g.Snap.Base.Index, g.Snap.Base.Term
	for _, y := range g.Entries {
		last = y.Index
		if y.Index < x.from {
			least = y.Term
		}
		if x.what == "Photo" && x.keep && y.Index == x.snap.Base.Index && y.Term != x.snap.Base.Term {
			return false
		}
	}
	if x.what == "Photo" {
		return x.snap.Base.Term <= g.Hard.Term && (!x.keep || x.snap.Base.Index >= first && x.snap.Base.Index <= last)
	}
	if len(x.entries) == 0 {
		return x.hard.Term >= g.Hard.Term
	}
	top := x.entries[len(x.entries)-1].Term
	return x.hard.Term >= g.Hard.Term && x.hard.Term >= top && x.from >= first && x.from <= last+1 && x.entries[0].Term >= least
}

// one fails where g is none of those that may be told.
func one(t *testing.T, what string, g store.Got, may []store.Got) {
	t.Helper()
	if !slices.ContainsFunc(may, func(x store.Got) bool { return alike(g, x) }) {
		t.Errorf("12.5: %s: %s is told, which is none of %d", what, short(g), len(may))
	}
}

// shown answers how a store lies behind some steps that all go well, and what is to be
// told of it then; it fails where a step is none of those that follow.
func shown(t *testing.T, steps []step) (past, kept, store.Got) {
	t.Helper()
	g, k, first := opening(nil, leastLimit)
	p := past{}.then(first)
	for _, x := range steps {
		if !follows(g, x) {
			t.Fatalf("12.5: %v does not follow %s", x, short(g))
		}
		ok, next, some := k.asked(p.now(), x)
		if !ok {
			t.Fatalf("12.5: %v may not be", x)
		}
		k, p, g = next, p.then(some), after(g, x)
	}
	return p, k, g
}

// crashes fails where a store, behind some steps that went well and one that is broken
// off at each of its operations, and behind any crash then, is told as 12.5 rules it out,
// or otherwise than the chapters say; or where another crash in the midst of that Open
// changes what is told.
func crashes(t *testing.T, steps []step, x step) {
	t.Helper()
	p, k, g := shown(t, steps)
	if !follows(g, x) {
		t.Fatalf("12.5: %v does not follow %s", x, short(g))
	}
	_, _, some := k.asked(p.now(), x)
	for fuse := range len(some) + 1 {
		left, may := p.then(some[:fuse]), broken(g, x)
		if fuse == len(some) {
			may = []store.Got{after(g, x)}
		}
		for keep := range len(left.done) + 1 {
			for torn := range left.torn(keep) {
				what := fmt.Sprintf("12.5: %d steps and %v, a fuse of %d, Crash(%d, %d)", len(steps), x, fuse, keep, torn)
				d, s := ready(t, what, nil)
				for _, y := range steps {
					asks(t, what, s, y, api.OK)
				}
				d.Fuse(fuse)
				want := api.ErrDown
				if fuse == len(some) {
					want = api.OK
				}
				asks(t, what, s, x, want)
				d.Crash(keep, torn)
				m := left.crashed(keep, torn)
				lies(t, what, d, m)
				again(t, what, m, may)
				if t.Failed() {
					return
				}
			}
		}
	}
}

// again fails where what is told of files is none of those that may be, or changes when a
// crash comes in the midst of Open.
func again(t *testing.T, what string, m files, may []store.Got) {
	t.Helper()
	want, _, some := opening(m, leastLimit)
	one(t, what, want, may)
	tells(t, what, m)
	for fuse := range some {
		done := past{begin: m}.then(some[:fuse])
		for keep := range len(done.done) {
			d := made(t, m)
			d.Fuse(fuse)
			refuses(t, what+", and another", d, leastLimit, api.ErrDown)
			d.Crash(keep, 0)
			opens(t, what+", and another", d, want)
		}
	}
}

// lives answers steps that follow one another, of each kind.
func lives() []step {
	return []step{
		saving(votes(2, 1), 1, run(2, 1, 5)...),
		saving(votes(3, 0), 0),
		saving(votes(3, 2), 4, run(3, 4, 7)...),
		photo(snap(3, 2, "three"), true),
		saving(votes(3, 2), 8, sized(3, 8, 40), conf(3, 9, 6)),
		photo(snap(5, 3, "five, with more bytes"), true),
		saving(votes(5, 1), 8, sized(4, 8, 33), command(5, 9, "ab"), none(5, 10)),
		saving(votes(5, 1), 6, sized(5, 6, 60)),
		photo(snap(6, 5, ""), true),
		saving(votes(6, 1), 7, run(6, 7, 9)...),
		photo(snap(8, 4, "not kept, though there is such an index"), false),
		saving(votes(6, 3), 9, run(6, 9, 12)...),
		photo(snap(30, 6, "far behind"), false),
		saving(votes(7, 3), 31, run(7, 31, 31)...),
		photo(snap(31, 7, "all"), true),
		photo(snap(2, 1, "older"), false),
		saving(votes(7, 0), 3, none(1, 3), none(2, 4)),
	}
}

// TestTheorem: 12.5, a crash in the midst of each of some steps.
func TestTheorem(t *testing.T) {
	for i, x := range lives() {
		crashes(t, lives()[:i], x)
	}
}

// TestTheoremWide: 12.5, the same behind a log of several segments: each place at which
// entries are replaced, and each snapshot.
func TestTheoremWide(t *testing.T) {
	steps := []step{saving(votes(2, 1), 1, run(2, 1, 4)...), photo(snap(1, 2, "ab"), true), saving(votes(3, 1), 5, run(3, 5, 7)...)}
	for from := uint64(2); from <= 8; from++ {
		crashes(t, steps, saving(votes(4, 2), from, run(4, from, from+2)...))
		crashes(t, steps, saving(votes(3, 1), from, run(3, from, from)...))
	}
	for index := uint64(2); index <= 7; index++ {
		p := snap(index, 2+index/5, "new")
		crashes(t, steps, photo(p, true))
		crashes(t, steps, photo(p, false))
		p.Base.Term = 1
		crashes(t, steps, photo(p, false))
	}
	for _, index := range []uint64{1, 8, 9, 50} {
		crashes(t, steps, photo(snap(index, 3, "new"), false))
	}
}

// TestTheoremLong: 12.5, a Hard for which the file is laid anew, ahead of entries.
func TestTheoremLong(t *testing.T) {
	steps := []step{saving(votes(1, 1), 1, run(1, 1, 3)...)}
	var all []api.Hard
	for term := uint64(2); len(hards(all...)) < long+20; term++ {
		all = append(all, votes(term, 3))
		steps = append(steps, saving(votes(term, 3), 0))
		if len(hards(all...)) > long-20 {
			crashes(t, steps, saving(votes(term+1, 2), 2, run(term+1, 2, 4)...))
		}
	}
}

// TestTheoremFull: 12.5, a step that fails for lack of room, and then a crash, or none.
func TestTheoremFull(t *testing.T) {
	for i, x := range lives() {
		steps := lives()[:i]
		p, k, g := shown(t, steps)
		_, _, some := k.asked(p.now(), x)
		for room := 0; room < p.now().bytes()+200; room += 7 {
			n, want := outcome(some, -1, room)
			left, may := p.then(some[:n]), broken(g, x)
			if want == api.OK {
				may = []store.Got{after(g, x)}
			}
			for keep := range len(left.done) + 2 {
				what := fmt.Sprintf("12.5: %d steps and %v, a room of %d, %d kept", i, x, room, keep)
				d, s := ready(t, what, nil)
				for _, y := range steps {
					asks(t, what, s, y, api.OK)
				}
				d.Room(room)
				asks(t, what, s, x, want)
				// Behind the last number of operations, one without a crash.
				if keep <= len(left.done) {
					d.Crash(keep, 0)
				}
				_, got := opened(t, what, d, leastLimit)
				one(t, what, got, may)
				if t.Failed() {
					return
				}
			}
		}
	}
}

// TestByHand: 12.5, a Save that takes two segments away and lays one, by hand.
func TestByHand(t *testing.T) {
	old := run(1, 1, 5)
	next := row(sized(2, 2, 34), sized(2, 3, 40))
	for keep, c := range []struct {
		hard    api.Hard
		entries []api.Entry
	}{
		{votes(1, 1), old},
		{votes(2, 3), old},
		{votes(2, 3), old[:4]},
		{votes(2, 3), old[:2]},
		{votes(2, 3), old[:1]},
		{votes(2, 3), row(old[0], next[0])},
		{votes(2, 3), row(old[0], next[0], next[1])},
	} {
		for _, torn := range []int{0, 1, 7} {
			d, s := ready(t, "12.5", nil)
			asks(t, "12.5: by hand", s, saving(votes(1, 1), 1, old...), api.OK)
			d.Fuse(6)
			asks(t, "12.5: by hand", s, saving(votes(2, 3), 2, next...), api.ErrDown)
			d.Crash(keep, torn)
			opens(t, fmt.Sprintf("12.5: by hand, Crash(%d, %d)", keep, torn), d, told(c.hard, api.Snap{}, c.entries...))
		}
	}
}

// TestPhotoByHand: 12.5, a Photo that keeps the log and one that doesn't, by hand.
func TestPhotoByHand(t *testing.T) {
	h, p := votes(1, 1), snap(3, 1, "new")
	old := run(1, 1, 5)
	for _, c := range []struct {
		fuse, keep  int
		there       bool
		kept, anew  []api.Entry
		keptL, newL uint64 // Last, behind a Photo that keeps and one that doesn't
	}{
		{0, 0, false, old, old, 5, 5},
		{1, 0, false, old, old, 5, 5},
		{1, 1, false, old, old, 5, 5},
		{2, 0, false, old, old, 5, 5},
		{2, 1, false, old, old, 5, 5},
		{2, 2, true, old[3:], old[3:], 5, 5},
		{3, 0, true, old[3:], old[3:], 5, 5},
		{4, 0, true, old[3:], old[3:], 5, 5},
		{4, 1, true, old[3:], old[3:4], 5, 4},
		{5, 0, true, old[3:], old[3:], 5, 5},
		{5, 2, true, old[3:], nil, 5, 0},
		{6, 0, true, old[3:], old[3:], 5, 5},
		{6, 3, true, old[3:], nil, 5, 0},
		{7, 0, true, old[3:], nil, 5, 0},
	} {
		for _, keep := range []bool{true, false} {
			what := fmt.Sprintf("12.5: by hand, kept %v, a fuse of %d, Crash(%d, 0)", keep, c.fuse, c.keep)
			d, s := ready(t, what, nil)
			asks(t, what, s, saving(h, 1, old...), api.OK)
			d.Fuse(c.fuse)
			photo(p, keep).on(s)
			d.Crash(c.keep, 0)
			want, last := told(h, p, c.kept...), c.keptL
			if !keep {
				want.Entries, last = c.anew, c.newL
			}
			if !c.there {
				want.Snap = api.Snap{}
			}
			ends(t, what, opens(t, what, d, want), last)
		}
	}
}
