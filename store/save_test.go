package store_test

import (
	"fmt"
	"math"
	"slices"
	"strings"
	"testing"

	"bursar/api"
	"bursar/disk"
	"bursar/store"
)

// ready answers a Disk with files, and the store that is opened on it.
func ready(t *testing.T, what string, m files) (*disk.Disk, *store.Store) {
	t.Helper()
	d := made(t, m)
	s, _ := opened(t, what, d, leastLimit)
	return d, s
}

// does fails where a store on files does other than a step asks for, or other than that
// is told when it is opened anew; or where it does not answer ErrDown at each operation
// at which the disk goes down, behind just those that come ahead of it.
func does(t *testing.T, what string, m files, x step) {
	t.Helper()
	what = fmt.Sprintf("%s, %v", what, x)
	_, k, first := opening(m, leastLimit)
	p := past{begin: m}.then(first)
	ok, next, some := k.asked(p.now(), x)
	if !ok {
		t.Fatalf("%s may not be", what)
	}
	for fuse := range some {
		d, s := ready(t, what, m)
		d.Fuse(fuse)
		asks(t, fmt.Sprintf("%s, a fuse of %d", what, fuse), s, x, api.ErrDown)
		cut := p.then(some[:fuse])
		if d.Pending() != len(cut.done) || !d.Down() {
			t.Errorf("%s, a fuse of %d: %d operations, not %d, down %v", what, fuse, d.Pending(), len(cut.done), d.Down())
		}
		d.Crash(len(cut.done), 0)
		lies(t, fmt.Sprintf("%s, a fuse of %d", what, fuse), d, cut.now())
		want, _, _ := opening(cut.now(), leastLimit)
		opens(t, fmt.Sprintf("12.4: %s, a fuse of %d", what, fuse), d, want)
	}
	d, s := ready(t, what, m)
	d.Fuse(len(some))
	asks(t, what, s, x, api.OK)
	if d.Down() || d.Pending() != 0 {
		t.Errorf("%s: not in %d operations, or %d are pending", what, len(some), d.Pending())
	}
	_, last := next.log.ends()
	ends(t, what, s, last)
	lies(t, what, d, p.then(some).now())
	d.Crash(0, 0)
	want, _, _ := opening(p.then(some).now(), leastLimit)
	opens(t, what+", opened anew", d, want)
}

// errs fails where a store on files does not answer ErrArg to a step, or does anything;
// or where it does not go on then as if it had not been asked.
func errs(t *testing.T, what string, m files, x step) {
	t.Helper()
	d, s := ready(t, what, m)
	_, k, first := opening(m, leastLimit)
	p := past{begin: m}.then(first)
	_, last := k.log.ends()
	d.Fuse(0)
	asks(t, what, s, x, api.ErrArg)
	if d.Down() || d.Pending() != 0 {
		t.Errorf("R3: %s: %v: %d operations, down %v", what, x, d.Pending(), d.Down())
	}
	d.Fuse(-1)
	ends(t, "R3: "+what, s, last)
	lies(t, "R3: "+what, d, p.now())
	at := max(last, 1)
	more := saving(votes(mostNumber, 5), at, none(mostNumber, at))
	_, _, some := k.asked(p.now(), more)
	asks(t, "R3: "+what+", gone on with", s, more, api.OK)
	lies(t, "R3: "+what+", gone on with", d, p.then(some).now())
}

// five answers a store whose log has 5 to 9 behind a snapshot.
func five() files {
	return stored(votes(5, 3), snap(4, 2, "ab"), run(2, 5, 6), row(sized(3, 7, 30), sized(3, 8, 30)), row(sized(5, 9, 30)))
}

// TestSave: 12.2, what lies in the files, by hand.
func TestSave(t *testing.T) {
	d, s := ready(t, "12.2", nil)
	asks(t, "12.2: both", s, saving(votes(3, 1), 1, run(2, 1, 3)...), api.OK)
	lies(t, "12.2: both", d, stored(votes(3, 1), api.Snap{}, run(2, 1, 2), run(2, 3, 3)))
	ends(t, "12.2: both", s, 3)
	asks(t, "12.2: entries alone", s, saving(votes(3, 1), 4, conf(3, 4, 6)), api.OK)
	lies(t, "12.2: entries alone", d, stored(votes(3, 1), api.Snap{}, run(2, 1, 2), append(run(2, 3, 3), conf(3, 4, 6))))
	asks(t, "12.2: a Hard alone", s, saving(votes(3, 2), 99), api.OK)
	m := stored(votes(3, 1), api.Snap{}, run(2, 1, 2), append(run(2, 3, 3), conf(3, 4, 6)))
	m[hardName] = hards(votes(3, 1), votes(3, 2))
	lies(t, "12.2: a Hard alone", d, m)
	asks(t, "12.2: others in place of two", s, saving(votes(4, 0), 3, none(4, 3), none(4, 4), none(4, 5)), api.OK)
	m = stored(votes(3, 1), api.Snap{}, run(2, 1, 2), row(none(4, 3), none(4, 4), none(4, 5)))
	m[hardName] = hards(votes(3, 1), votes(3, 2), votes(4, 0))
	lies(t, "12.2: others in place of two", d, m)
	ends(t, "12.2: others in place of two", s, 5)
	asks(t, "12.2: others in place of all", s, saving(votes(4, 0), 1, none(4, 1)), api.OK)
	d.Crash(0, 0)
	lies(t, "12.2: others in place of all", d, stored(votes(1, 1), api.Snap{}, row(none(4, 1))).with(hardName, m[hardName]))
	opens(t, "12.2: others in place of all", d, told(votes(4, 0), api.Snap{}, none(4, 1)))
}

// TestSaveNothing: 12.2, no entries and a Hard that is known: nothing is written or synced,
// whatever from is.
func TestSaveNothing(t *testing.T) {
	for _, from := range []uint64{0, 1, 4, 5, 9, 10, 11, 99, mostNumber, mostNumber + 1, math.MaxUint64} {
		d, s := ready(t, "12.2", nil)
		d.Fuse(0)
		asks(t, "12.2: the example", s, saving(votes(0, 0), from), api.OK)
		if d.Down() {
			t.Errorf("12.2: the example, from %d: something was done", from)
		}
		d, s = ready(t, "12.2", five())
		d.Fuse(0)
		asks(t, "12.2: the Hard that was told", s, saving(votes(5, 3), from), api.OK)
		asks(t, "12.2: an empty slice", s, step{what: "Save", hard: votes(5, 3), from: from, entries: []api.Entry{}}, api.OK)
		if d.Down() {
			t.Errorf("12.2: the Hard that was told, from %d: something was done", from)
		}
		does(t, "12.2: nothing", nil, saving(votes(0, 0), from))
		does(t, "12.2: nothing", five(), saving(votes(5, 3), from))
		does(t, "12.2: a Hard alone", five(), saving(votes(5, 4), from))
		does(t, "12.2: a Hard alone", nil, saving(votes(0, 1), from))
	}
}

// TestSaveHard: 12.2, it is the Hard that was told, or saved last, that is not saved again.
func TestSaveHard(t *testing.T) {
	d, s := ready(t, "12.2", five())
	m := five()
	for _, c := range []struct {
		h     api.Hard
		saved bool
	}{
		{votes(5, 3), false}, {votes(5, 2), true}, {votes(5, 2), false}, {votes(5, 3), true}, {votes(5, 3), false}, {votes(6, 3), true},
		{votes(6, 0), true}, {votes(6, 0), false}, {votes(0, 0), true}, {votes(0, 0), false}, {votes(mostNumber, 7), true}, {votes(mostNumber, 7), false},
	} {
		asks(t, "12.2: Hard after Hard", s, saving(c.h, 0), api.OK)
		if c.saved {
			m = m.with(hardName, m[hardName]+hards(c.h))
		}
		lies(t, "12.2: Hard after Hard", d, m)
		// Those that may not be are not kept either.
		asks(t, "12.2: a wrong Hard", s, saving(votes(c.h.Term, 8), 0), api.ErrArg)
		asks(t, "12.2: a wrong entry", s, saving(votes(7, 7), 7, none(1, 8)), api.ErrArg)
		asks(t, "12.2: a wrong snapshot", s, photo(api.Snap{}, false), api.ErrArg)
		lies(t, "12.2: Hard after Hard, wrong", d, m)
	}
	// One that was told with its term raised is not in the file, but is not saved either.
	m = stored(votes(1, 1), api.Snap{}, row(none(2, 1)))
	d, s = ready(t, "12.2", m)
	asks(t, "12.2: a raised term", s, saving(votes(2, 0), 0), api.OK)
	lies(t, "12.2: a raised term", d, m)
	for _, h := range []api.Hard{votes(1, 1), votes(2, 1), votes(1, 0), votes(3, 0)} {
		d, s = ready(t, "12.2", m)
		asks(t, "12.2: another than the raised one", s, saving(h, 0), api.OK)
		lies(t, "12.2: another than the raised one", d, m.with(hardName, hards(votes(1, 1), h)))
		does(t, "12.2: another than the raised one", m, saving(h, 2, none(3, 2)))
	}
}

// TestRaised: 12.1 and 12.2, a Hard that was told with its term raised, and was not saved
// as it was known, is told as long as the entry that raised it stays.
func TestRaised(t *testing.T) {
	m := stored(votes(1, 1), api.Snap{}, row(none(2, 1)))
	d, s := ready(t, "12.2", m)
	asks(t, "12.2: the entry stays", s, saving(votes(2, 0), 2, none(2, 2)), api.OK)
	s = opens(t, "12.2: the entry stays", d, told(votes(2, 0), api.Snap{}, none(2, 1), none(2, 2)))
	asks(t, "12.2: the entry goes", s, saving(votes(2, 0), 1, none(1, 1)), api.OK)
	lies(t, "12.2: the entry goes", d, stored(votes(1, 1), api.Snap{}, row(none(1, 1))))
	opens(t, "12.2: the entry goes", d, told(votes(1, 1), api.Snap{}, none(1, 1)))
}

// TestSaveManyHards: 12.2, many terms one after the other, so that the file is laid anew.
func TestSaveManyHards(t *testing.T) {
	d, s := ready(t, "12.2", nil)
	var all []api.Hard
	for i := range uint64(90) {
		h := votes(i+1, int(i%8))
		if len(hards(all...)) >= long {
			all = nil
		}
		all = append(all, h)
		asks(t, "12.2: many Hards", s, saving(h, 0), api.OK)
		lies(t, "12.2: many Hards", d, files{hardName: hards(all...)})
		if len(hards(all...)) >= long {
			does(t, "12.2: a long file", files{hardName: hards(all...)}, saving(votes(99, 1), 1, none(1, 1)))
		}
	}
	opens(t, "12.2: many Hards", d, told(votes(90, 1), api.Snap{}))
}

// TestFrom: 12.2, each from at which entries may come, ahead of the log, in it, and
// behind it; and where there is no entry, any.
func TestFrom(t *testing.T) {
	for _, h := range []api.Hard{votes(5, 3), votes(6, 0)} {
		for from := uint64(1); from <= 10; from++ {
			for n := range uint64(6) {
				does(t, "12.2: from", five(), saving(h, from, run(5, from, from+n)...))
			}
		}
		for _, from := range []uint64{11, 12, 99, mostNumber} {
			errs(t, "12.2: a gap", five(), saving(h, from, run(5, from, from)...))
		}
		for _, from := range []uint64{1, 2, 4, 5, 99, mostNumber - 1, mostNumber} {
			does(t, "12.2: no entries", nil, saving(h, from, none(2, from)))
			does(t, "12.2: no entries behind a base", stored(h, snap(4, 2, "ab")), saving(h, from, none(1, from)))
			does(t, "12.2: no entries and another Hard", stored(votes(3, 2), api.Snap{}), saving(h, from, none(2, from)))
		}
	}
	// A log whose only entry is the first one there is, or the last one.
	one := stored(votes(5, 3), api.Snap{}, run(1, 1, 1))
	does(t, "12.2: the only one", one, saving(votes(5, 3), 1, none(3, 1), none(4, 2)))
	does(t, "12.2: behind the only one", one, saving(votes(5, 3), 2, none(3, 2)))
	errs(t, "12.2: a gap behind the only one", one, saving(votes(5, 3), 3, none(3, 3)))
	last := stored(votes(5, 3), snap(mostNumber-1, 1, ""), run(1, mostNumber, mostNumber))
	does(t, "12.2: the last number", last, saving(votes(5, 3), mostNumber, none(3, mostNumber)))
	does(t, "12.2: ahead of the last number", last, saving(votes(5, 3), mostNumber-1, none(3, mostNumber-1), none(3, mostNumber)))
	errs(t, "12.2: behind the last number", last, saving(votes(5, 3), mostNumber, none(3, mostNumber), none(3, mostNumber+1)))
	errs(t, "12.2: behind the last number", last, saving(votes(5, 3), mostNumber+1, none(3, mostNumber+1)))
}

// TestFromLater: 12.2, the log's ends are those that it has come to have.
func TestFromLater(t *testing.T) {
	d, s := ready(t, "12.2", five())
	h := votes(5, 3)
	asks(t, "12.2: behind the last", s, saving(h, 10, run(5, 10, 12)...), api.OK)
	asks(t, "12.2: a gap", s, saving(h, 14, run(5, 14, 14)...), api.ErrArg)
	asks(t, "12.2: behind the last", s, saving(h, 13, run(6, 13, 13)...), api.OK)
	asks(t, "12.2: a term that falls", s, saving(h, 14, run(5, 14, 14)...), api.ErrArg)
	asks(t, "12.2: in its midst", s, saving(h, 7, run(2, 7, 7)...), api.OK)
	asks(t, "12.2: a gap", s, saving(h, 9, run(5, 9, 9)...), api.ErrArg)
	asks(t, "12.2: a term that falls", s, saving(h, 8, run(1, 8, 8)...), api.ErrArg)
	asks(t, "12.2: behind the last", s, saving(h, 8, run(2, 8, 8)...), api.OK)
	ends(t, "12.2", s, 8)
	asks(t, "12.2: all go", s, photo(snap(20, 5, ""), false), api.OK)
	asks(t, "12.2: anywhere", s, saving(h, 30, run(1, 30, 31)...), api.OK)
	asks(t, "12.2: a gap", s, saving(h, 33, run(5, 33, 33)...), api.ErrArg)
	lies(t, "12.2", d, stored(h, snap(20, 5, ""), run(1, 30, 31)))
}

// TestTerms: 12.2, terms that may follow the entry ahead of from, and one another.
func TestTerms(t *testing.T) {
	h := votes(5, 3)
	for _, c := range []struct {
		from, ahead uint64 // and the term of the entry ahead of from, or 0
	}{{1, 0}, {4, 0}, {5, 0}, {6, 2}, {7, 2}, {8, 3}, {9, 3}, {10, 5}} {
		for term := uint64(1); term <= 6; term++ {
			for _, some := range [][]api.Entry{{none(term, c.from)}, {none(term, c.from), command(term, c.from+1, "ab")}, {none(term, c.from), none(term+1, c.from+1)}} {
				if term >= c.ahead {
					does(t, "12.2: terms", five(), saving(h, c.from, some...))
				} else {
					errs(t, "12.2: a term below the one ahead", five(), saving(h, c.from, some...))
					errs(t, "12.2: a term below the one ahead, and a Hard", five(), saving(votes(9, 1), c.from, some...))
				}
			}
		}
	}
	// Of the base's term nothing is said, nor of the Hard's.
	does(t, "12.2: a term below the base's", stored(h, snap(4, 3, "")), saving(h, 5, none(1, 5)))
	does(t, "12.2: a term above the Hard's", five(), saving(h, 10, none(mostNumber, 10)))
}

// wrongRows answers entries that may not come from 8 on, in no store.
func wrongRows() [][]api.Entry {
	rows := [][]api.Entry{
		{none(3, 7)}, {none(3, 9)}, {none(3, 0)}, {none(3, 1)}, {none(3, mostNumber)},
		{none(3, 8), none(3, 8)}, {none(3, 8), none(3, 10)}, {none(3, 8), none(3, 7)}, {none(3, 9), none(3, 8)}, {none(3, 9), none(3, 10)},
		{none(4, 8), none(3, 9)}, {none(3, 8), none(5, 9), none(4, 10)}, {none(3, 8), none(3, 9), none(3, 10), none(3, 12)},
		append(run(3, 8, 20), none(2, 21)), append(run(3, 8, 20), none(3, 22)),
	}
	for _, x := range []api.Entry{
		{}, none(0, 8), none(mostNumber+1, 8), none(math.MaxUint64, 8), command(3, 8, ""), command(3, 8, strings.Repeat("x", mostData+1)),
		conf(3, 8, 0), conf(3, 8, 1), conf(3, 8, 3), conf(3, 8, 255), conf(3, 8, 256), conf(3, 8, -2),
		{Kind: 3, Term: 3, Index: 8}, {Kind: -1, Term: 3, Index: 8}, {Term: 3, Index: 8, Conf: 2}, {Term: 3, Index: 8, Data: []byte("x")},
		{Kind: api.EntryCmd, Term: 3, Index: 8, Data: []byte("x"), Conf: 2}, {Kind: api.EntryConf, Term: 3, Index: 8, Data: []byte("x"), Conf: 2},
	} {
		rows = append(rows, row(x), append(row(x), run(3, 9, 10)...))
		x.Index = 10
		rows = append(rows, append(run(3, 8, 9), x), append(run(3, 8, 9), x, none(3, 11)))
	}
	return rows
}

// TestSaveArgs: 12.2, entries and Hards that may not be: ErrArg, and nothing has changed,
// not even the Hard that is saved ahead of entries.
func TestSaveArgs(t *testing.T) {
	stores := []files{nil, five(), stored(votes(5, 3), snap(7, 3, ""))}
	for i, some := range wrongRows() {
		for j, m := range stores {
			for _, h := range []api.Hard{votes(5, 3), votes(9, 1)} {
				errs(t, fmt.Sprintf("12.2: row %d, store %d", i, j), m, saving(h, 8, some...))
			}
		}
		if t.Failed() {
			return
		}
	}
	for _, h := range []api.Hard{
		votes(mostNumber+1, 0), votes(math.MaxUint64, 1), votes(5, -1), votes(5, 8), votes(5, math.MaxInt), votes(5, math.MinInt), votes(mostNumber+1, 8),
	} {
		for _, m := range stores {
			errs(t, "12.2: a wrong Hard", m, saving(h, 0))
			errs(t, "12.2: a wrong Hard", m, saving(h, 8, none(9, 8)))
			errs(t, "12.2: a wrong Hard, a wrong entry", m, saving(h, 8, none(9, 9)))
		}
	}
	for _, from := range []uint64{0, mostNumber + 1, math.MaxUint64} {
		for _, m := range stores {
			errs(t, "12.2: a wrong from", m, saving(votes(9, 1), from, none(9, from)))
			errs(t, "12.2: a wrong from", m, saving(votes(9, 1), from, none(9, 8)))
		}
	}
}

// TestRight: 12.2, entries at the edges of what may be.
func TestRight(t *testing.T) {
	for _, x := range []api.Entry{
		none(5, 10), none(mostNumber, 10), command(5, 10, "x"), command(5, 10, strings.Repeat("x", mostData)), conf(5, 10, 2), conf(5, 10, mostConf),
	} {
		does(t, "12.2: at the edge", five(), saving(votes(0, 0), 10, x, none(mostNumber, 11)))
		does(t, "12.2: at the edge", five(), saving(votes(mostNumber, 7), 10, x))
		x.Index = 1
		does(t, "12.2: at the edge", nil, saving(votes(1, 1), 1, x))
	}
}

// TestMany: 12.2, as many entries as the log may come to have, at once and one by one.
func TestMany(t *testing.T) {
	all := slices.Concat(run(1, 1, 400), run(2, 401, 900))
	for _, most := range []int{1, 4, 900} {
		d := made(t, nil)
		s, _ := opened(t, "12.2: many", d, 4096)
		for i := 0; i < len(all); i += most {
			asks(t, "12.2: many", s, saving(votes(2, 1), uint64(i+1), all[i:min(i+most, len(all))]...), api.OK)
		}
		ends(t, "12.2: many", s, 900)
		_, got := opened(t, "12.2: many", d, 4096)
		if !alike(got, told(votes(2, 1), api.Snap{}, all...)) {
			t.Errorf("12.2: many, %d at once: %s", most, short(got))
		}
	}
}
