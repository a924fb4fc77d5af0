package store_test

import (
	"bytes"
	"slices"
	"testing"

	"bursar/api"
	"bursar/seg"
)

// scrawl writes over b and over the room behind it.
func scrawl(b []byte) {
	b = b[:cap(b)]
	for i := range b {
		b[i] = 0xee
	}
}

// scrawlAll writes over entries, over what they hold, and over the room behind them.
func scrawlAll(some []api.Entry) {
	some = some[:cap(some)]
	for i := range some {
		scrawl(some[i].Data)
		some[i] = none(77, 77)
	}
}

// roomy answers b with room behind it, which is marked.
func roomy(b string) []byte { return append([]byte(b), bytes.Repeat([]byte{0xcc}, 40)...)[:len(b)] }

// roomyEntries answers the entries 10 and 11 with room behind them, and behind what they
// hold; the third one lies in that room.
func roomyEntries() []api.Entry {
	return row(api.Entry{Kind: api.EntryCmd, Term: 5, Index: 10, Data: roomy("ab")}, conf(6, 11, 6), api.Entry{Kind: api.EntryCmd, Term: 1, Index: 1, Data: roomy("xyz")})[:2]
}

// wide answers some entries with all that lies in the room behind it.
func wide(some []api.Entry) []api.Entry {
	some = slices.Clone(some[:cap(some)])
	for i := range some {
		some[i].Data = bytes.Clone(some[i].Data[:cap(some[i].Data)])
	}
	return some
}

// TestArgumentsStay: R2, what is handed in is not changed, nor the room behind it, by calls
// that are OK or by others.
func TestArgumentsStay(t *testing.T) {
	some, p := roomyEntries(), snap(9, 5, "")
	p.Data = roomy("image")
	before, image := wide(some), bytes.Clone(p.Data[:cap(p.Data)])
	for _, limit := range []int{64, 4096} {
		d := made(t, five())
		s, _ := opened(t, "R2", d, limit)
		asks(t, "R2: arguments stay", s, step{what: "Save", hard: votes(6, 1), from: 10, entries: some}, api.OK)
		asks(t, "R2: arguments stay, in place of themselves", s, step{what: "Save", hard: votes(6, 2), from: 10, entries: some}, api.OK)
		asks(t, "R2: arguments stay, wrong", s, step{what: "Save", hard: votes(6, 2), from: 9, entries: some}, api.ErrArg)
		asks(t, "R2: arguments stay", s, photo(p, true), api.OK)
		asks(t, "R2: arguments stay", s, photo(p, false), api.OK)
		wrong := p
		wrong.Base.Conf = 1
		asks(t, "R2: arguments stay, wrong", s, photo(wrong, false), api.ErrArg)
		d.Room(0)
		asks(t, "R2: arguments stay, full", s, photo(p, false), api.ErrFull)
		asks(t, "R2: arguments stay, full", s, step{what: "Save", hard: votes(6, 2), from: 10, entries: some}, api.ErrFull)
		d.Fuse(0)
		asks(t, "R2: arguments stay, down", s, photo(p, false), api.ErrDown)
		if !same(wide(some), before) || !bytes.Equal(p.Data[:cap(p.Data)], image) {
			t.Errorf("R2: an argument is changed: %s %s", short(wide(some)), short(p.Data[:cap(p.Data)]))
		}
	}
}

// TestArgumentsAreNotKept: R2, what was handed in may be written over.
func TestArgumentsAreNotKept(t *testing.T) {
	some, p := roomyEntries(), snap(4, 2, "")
	p.Data = roomy("image")
	d, s := ready(t, "R2", five())
	asks(t, "R2: written over", s, step{what: "Save", hard: votes(6, 1), from: 10, entries: some}, api.OK)
	asks(t, "R2: written over", s, photo(p, true), api.OK)
	scrawlAll(some)
	scrawl(p.Data)
	want, _, _ := opening(five(), leastLimit)
	want = told(votes(6, 1), snap(4, 2, "image"), append(want.Entries, command(5, 10, "ab"), conf(6, 11, 6))...)
	ends(t, "R2: written over", s, 11)
	asks(t, "R2: written over, a term below the last", s, saving(votes(6, 1), 12, none(5, 12)), api.ErrArg)
	asks(t, "R2: written over", s, saving(votes(6, 1), 12, none(6, 12)), api.OK)
	want.Entries = append(want.Entries, none(6, 12))
	opens(t, "R2: written over", d, want)
}

// TestAnswersAreNew: R2, what is told shares no memory with the disk, with the store, or
// with other answers, and no two parts of it with one another.
func TestAnswersAreNew(t *testing.T) {
	m := stored(votes(5, 3), snap(4, 2, "image"), row(command(2, 5, "ab"), command(2, 6, "cd")), row(command(2, 7, "efg"), conf(2, 8, 6)))
	want, _, _ := opening(m, leastLimit)
	d := made(t, m)
	s, one := opened(t, "R2", d, leastLimit)
	_, other := opened(t, "R2", d, leastLimit)
	// What grows in place writes into the room behind it.
	for i := range one.Entries {
		_ = append(one.Entries[i].Data, "zz"...)
	}
	_ = append(one.Snap.Data, "zz"...)
	_ = append(one.Entries, none(9, 9))
	if !alike(one, want) {
		t.Errorf("R2: parts of an answer share memory: %s", short(one))
	}
	scrawl(one.Snap.Data)
	scrawlAll(one.Entries)
	if !alike(other, want) {
		t.Errorf("R2: another answer is changed: %s", short(other))
	}
	lies(t, "R2: an answer was written over", d, m)
	asks(t, "R2: an answer was written over", s, saving(votes(5, 3), 8, none(1, 8)), api.ErrArg)
	asks(t, "R2: an answer was written over", s, saving(votes(5, 3), 9, none(2, 9)), api.OK)
	want.Entries = append(want.Entries, none(2, 9))
	opens(t, "R2: an answer was written over", d, want)
}

// TestAnswersStay: R2, what was told stays as it is, whatever comes of the store.
func TestAnswersStay(t *testing.T) {
	want, _, _ := opening(five(), leastLimit)
	d := made(t, five())
	s, got := opened(t, "R2", d, leastLimit)
	for _, x := range storing() {
		x.on(s)
		for _, name := range d.Names() {
			d.Append(name, []byte("zz"))
		}
		if !alike(got, want) {
			t.Errorf("R2: what was told is now %s", short(got))
		}
	}
	d.Crash(3, 7)
	if !alike(got, want) {
		t.Errorf("R2: what was told is now %s", short(got))
	}
}

// TestApart: R8 and R4, what one store does is nothing to another.
func TestApart(t *testing.T) {
	d, s := ready(t, "R8", nil)
	other, o := ready(t, "R8", five())
	for i, x := range lives() {
		asks(t, "R8: one", s, x, api.OK)
		asks(t, "R8: the other", o, saving(votes(9, i%8), 9, none(9, 9)), api.OK)
		ends(t, "R8: the other", o, 9)
	}
	p, k, want := shown(t, lives())
	_, last := k.log.ends()
	ends(t, "R8: one", s, last)
	lies(t, "R8: one", d, p.now())
	opens(t, "R8: one", d, want)
	d.Fuse(0)
	asks(t, "R8: one is down", s, saving(votes(9, 1), 0), api.ErrDown)
	asks(t, "R8: one is down, the other", o, saving(votes(10, 1), 10, none(9, 10)), api.OK)
	_, got := opened(t, "R8: the other", other, leastLimit)
	if got.Hard != votes(10, 1) || got.Snap.Base.Index != 4 {
		t.Errorf("R8: the other: %s", short(got))
	}
}

// TestEmbeds: a store is its log, and tells what lies there.
func TestEmbeds(t *testing.T) {
	_, s := ready(t, "Ways", five())
	var l *seg.Log = s.Log
	want, k, _ := opening(five(), leastLimit)
	if l.Last() != s.Last() || s.First() != 5 || !same(s.List(), k.log.entries()) || !same(l.List(), want.Entries) {
		t.Errorf("a store's log: First %d, Last %d, %s", s.First(), s.Last(), short(s.List()))
	}
	asks(t, "a store's log", s, photo(snap(6, 2, ""), true), api.OK)
	if l.First() != 7 || s.First() != 7 {
		t.Errorf("a store's log begins at %d", s.First())
	}
}
