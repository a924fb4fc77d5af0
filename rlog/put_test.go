package rlog_test

import (
	"math"
	"testing"

	"bursar/api"
)

// putCase is a Put on a log with the chapter's base, and what comes of it.
type putCase struct {
	what        string
	own         []api.Entry
	index, term uint64
	some        []api.Entry
	from        uint64
	ok          bool
	want        []api.Entry
}

// puts fails where a Put answers, or leaves, anything but what a case tells.
func puts(t *testing.T, some ...putCase) {
	t.Helper()
	for _, c := range some {
		l := made(t, base, c.own...)
		if from, ok := l.Put(c.index, c.term, c.some); from != c.from || ok != c.ok {
			t.Errorf("15.3: %s: Put(%d, %d, %s): %d %t, not %d %t", c.what, c.index, c.term, short(c.some), from, ok, c.from, c.ok)
		}
		holds(t, "15.3: "+c.what, l, base, c.want...)
	}
}

// TestPutExample: 15.3, the chapter's examples.
func TestPutExample(t *testing.T) {
	l := made(t, base, example()...)
	if from, ok := l.Put(5, 2, run(6, 3)); from != 6 || !ok {
		t.Errorf("15.3: the first: %d %t", from, ok)
	}
	holds(t, "15.3: after the first", l, base, run(5, 2, 3)...)
	if from, ok := l.Put(5, 2, run(6, 3, 3)); from != 7 || !ok {
		t.Errorf("15.3: the second: %d %t", from, ok)
	}
	holds(t, "15.3: after the second", l, base, run(5, 2, 3, 3)...)
	if from, ok := l.Put(5, 1, nil); from != 0 || ok {
		t.Errorf("15.3: the third: %d %t", from, ok)
	}
	holds(t, "15.3: after the third", l, base, run(5, 2, 3, 3)...)
}

// TestPutAll: 15.3, entries that are all there, in some of the log or in all of it, and
// none at all: nothing is changed, and what lies behind them stays.
func TestPutAll(t *testing.T) {
	own := run(5, 2, 2, 3, 3, 5)
	for k := range uint64(6) {
		index, term := 4+k, []uint64{2, 2, 2, 3, 3, 5}[k]
		for n := range own[k:] {
			puts(t, putCase{"all there", own, index, term, own[k:][:n], 0, true, own})
		}
		puts(t, putCase{"all to the end", own, index, term, own[k:], 0, true, own})
		puts(t, putCase{"no entries", own, index, term, nil, 0, true, own})
	}
	puts(t,
		putCase{"nothing into nothing", nil, 4, 2, nil, 0, true, nil},
		putCase{"nothing into nothing", nil, 4, 2, row(), 0, true, nil},
	)
}

// TestPutNew: 15.3, entries of which the first ones are there, and the others are new.
func TestPutNew(t *testing.T) {
	own := run(5, 2, 2, 3)
	all := run(5, 2, 2, 3, 3, 6)
	puts(t,
		putCase{"into nothing", nil, 4, 2, all, 5, true, all},
		putCase{"at the base", own, 4, 2, all, 8, true, all},
		putCase{"in the midst", own, 6, 2, all[2:], 8, true, all},
		putCase{"at Last", own, 7, 3, all[3:], 8, true, all},
		putCase{"at Last, one", own, 7, 3, all[3:4], 8, true, all[:4]},
		putCase{"at the base, one new", own, 4, 2, all[:4], 8, true, all[:4]},
		putCase{"at Last, of a far term", own, 7, 3, run(8, mostNumber), 8, true, append(run(5, 2, 2, 3), none(mostNumber, 8))},
	)
}

// TestPutOther: 15.3, entries one of which the log has with another term: those behind it
// go as well, even where there are more of them than come.
func TestPutOther(t *testing.T) {
	own := run(5, 2, 2, 3, 3, 5)
	puts(t,
		putCase{"the first", own, 4, 2, run(5, 4, 4), 5, true, run(5, 4, 4)},
		putCase{"the first, just one", own, 4, 2, run(5, 3), 5, true, run(5, 3)},
		putCase{"in the midst", own, 4, 2, run(5, 2, 2, 6, 6), 7, true, run(5, 2, 2, 6, 6)},
		putCase{"in the midst, just one", own, 6, 2, run(7, 6), 7, true, run(5, 2, 2, 6)},
		putCase{"in the midst, of a lower term", own, 4, 2, run(5, 2, 2, 2), 7, true, run(5, 2, 2, 2)},
		putCase{"in the midst, then alike again", own, 4, 2, run(5, 2, 2, 2, 3, 5), 7, true, run(5, 2, 2, 2, 3, 5)},
		putCase{"the last", own, 4, 2, run(5, 2, 2, 3, 3, 6), 9, true, run(5, 2, 2, 3, 3, 6)},
		putCase{"the last, of a lower term", own, 8, 3, run(9, 3), 9, true, run(5, 2, 2, 3, 3, 3)},
		putCase{"the last, and more", own, 8, 3, run(9, 4, 4, 4), 9, true, run(5, 2, 2, 3, 3, 4, 4, 4)},
		putCase{"more than there are", own, 4, 2, run(5, 9, 9, 9, 9, 9, 9, 9, 9), 5, true, run(5, 9, 9, 9, 9, 9, 9, 9, 9)},
	)
}

// TestPutSameTerm: 15.3, an entry of the same term is the same, whatever else it tells:
// what the log has remains.
func TestPutSameTerm(t *testing.T) {
	own := row(command(2, 5, "a"), conf(2, 6, 6), none(3, 7))
	puts(t,
		putCase{"others of the same terms", own, 4, 2, row(command(2, 5, "bc"), none(2, 6), conf(3, 7, 30)), 0, true, own},
		putCase{"others, and one more", own, 4, 2, row(none(2, 5), conf(2, 6, 2), none(3, 7), command(3, 8, "d")), 8, true,
			row(command(2, 5, "a"), conf(2, 6, 6), none(3, 7), command(3, 8, "d"))},
		putCase{"others, and one of another term", own, 4, 2, row(none(2, 5), command(3, 6, "e")), 6, true,
			row(command(2, 5, "a"), command(3, 6, "e"))},
	)
}

// TestPutNotThere: 15.3, an index that the log does not have, or has with another term.
func TestPutNotThere(t *testing.T) {
	own := run(5, 2, 3)
	for _, c := range []struct{ index, term uint64 }{
		{0, 0}, {0, 2}, {1, 1}, {3, 2}, {3, 1}, {3, 0}, {4, 1}, {4, 3}, {4, 0}, {5, 1}, {5, 3}, {5, 0}, {6, 2}, {6, 4}, {6, 0},
		{7, 3}, {7, 0}, {8, 3}, {mostNumber, 3}, {math.MaxUint64, 3}, {math.MaxUint64, 0}, {4 + 1<<32, 2}, {6, math.MaxUint64},
	} {
		for _, some := range [][]api.Entry{nil, run(c.index+1, 3), run(c.index+1, 3, 4), run(7, 3), run(5, 2, 3)} {
			puts(t, putCase{"not there", own, c.index, c.term, some, 0, false, own})
		}
	}
	zero := made(t, api.Base{})
	if from, ok := zero.Put(0, 1, run(1, 1)); from != 0 || ok {
		t.Errorf("15.3: Put(0, 1) behind the zero base: %d %t", from, ok)
	}
	if from, ok := zero.Put(1, 0, nil); from != 0 || ok {
		t.Errorf("15.3: Put(1, 0) behind the zero base: %d %t", from, ok)
	}
	holds(t, "15.3: the zero base", zero, api.Base{})
	if from, ok := zero.Put(0, 0, run(1, 1, 1)); from != 1 || !ok {
		t.Errorf("15.3: Put(0, 0): %d %t", from, ok)
	}
	holds(t, "15.3: behind the zero base", zero, api.Base{}, run(1, 1, 1)...)
}

// TestPutWrong: 15.3, entries that do not follow: nothing is changed, even where the first
// ones would.
func TestPutWrong(t *testing.T) {
	own := run(5, 2, 3, 3)
	for what, some := range map[string][]api.Entry{
		"too early":           run(5, 2, 3),
		"too late":            run(7, 3),
		"index 0":             run(0, 2),
		"one left out":        row(none(4, 6), none(4, 8)),
		"one twice":           row(none(4, 6), none(4, 6)),
		"a lower term":        run(6, 1),
		"terms that fall":     run(6, 4, 3),
		"a fall at the end":   run(6, 3, 3, 3, 4, 3),
		"a term that is 0":    run(6, 0),
		"too great a term":    run(6, 4, mostNumber+1),
		"all there, then not": run(6, 3, 3, 2),
	} {
		puts(t, putCase{what, own, 5, 2, some, 0, false, own})
	}
	for _, x := range wrong(4, 6) {
		later := x
		later.Index = 7
		puts(t,
			putCase{"not valid", own, 5, 2, row(x), 0, false, own},
			putCase{"not valid", own, 5, 2, row(none(4, 6), later, none(4, 8)), 0, false, own},
		)
	}
	for _, x := range wrong(3, 6) {
		puts(t, putCase{"not valid, of a term that is there", own, 5, 2, row(x), 0, false, own})
	}
}

// TestPutAtTheEnd: 15.3, up to the greatest index, and behind it.
func TestPutAtTheEnd(t *testing.T) {
	b := api.Base{Index: mostNumber - 2, Term: 2, Conf: 14}
	l := made(t, b, run(mostNumber-1, 2, 2)...)
	for _, index := range []uint64{mostNumber, mostNumber - 1, mostNumber - 2} {
		some := run(index+1, 2, 2, 2)
		if from, ok := l.Put(index, 2, some); from != 0 || ok {
			t.Errorf("15.3: Put(%d, 2) beyond MaxNumber: %d %t", index, from, ok)
		}
	}
	holds(t, "15.3: beyond MaxNumber", l, b, run(mostNumber-1, 2, 2)...)
	if from, ok := l.Put(mostNumber-1, 2, run(mostNumber, 3)); from != mostNumber || !ok {
		t.Errorf("15.3: Put at MaxNumber: %d %t", from, ok)
	}
	holds(t, "15.3: at MaxNumber", l, b, run(mostNumber-1, 2, 3)...)
}

// rows answers all rows of up to most terms from 1 to last that do not fall.
func rows(most int, last uint64) [][]uint64 {
	all := [][]uint64{nil}
	for k := 0; k < len(all); k++ {
		least := uint64(1)
		if n := len(all[k]); n > 0 {
			least = all[k][n-1]
		}
		for term := least; term <= last && len(all[k]) < most; term++ {
			all = append(all, append(append([]uint64{}, all[k]...), term))
		}
	}
	return all
}

// TestEveryPut: 15.3, all short logs, and all that can be put into them, held against the
// model.
func TestEveryPut(t *testing.T) {
	all := rows(4, 3)
	if len(all) != 1+3+6+10+15 {
		t.Fatalf("%d rows", len(all))
	}
	b := api.Base{Index: 1, Term: 1, Conf: 14}
	for _, own := range all {
		for _, terms := range all {
			for place := range uint64(36) {
				index, term := place/6, place%6
				l, m := made(t, b, run(2, own...)...), &model{b, run(2, own...)}
				some := run(index+1, terms...)
				from, ok := l.Put(index, term, some)
				if f, o := m.put(index, term, some); from != f || ok != o || !same(told(l), m.row) {
					t.Fatalf("15.3: %v: Put(%d, %d, %v): %d %t %v, not %d %t %v", own, index, term, terms, from, ok, told(l), f, o, m.row)
				}
			}
		}
	}
}
