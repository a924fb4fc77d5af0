package rlog_test

import (
	"math"
	"strings"
	"testing"

	"bursar/api"
	"bursar/rlog"
)

// refused fails where New makes a Log of what may not be one.
func refused(t *testing.T, what string, base api.Base, some ...api.Entry) {
	t.Helper()
	if l, e := rlog.New(base, some); l != nil || e != api.ErrArg {
		t.Errorf("15.1: %s: New(%v, %s): %v %d", what, base, short(some), l, e)
	}
}

// TestRightBases: 15.1, bases that are right, with no entries and with the next one.
func TestRightBases(t *testing.T) {
	for _, b := range []api.Base{
		{},
		{Index: 1, Term: 1, Conf: 2},
		{Index: 4, Term: 2, Conf: 14},
		{Index: 4, Term: 9, Conf: 254},
		{Index: 9, Term: 1, Conf: 128},
		{Index: 1, Term: mostNumber, Conf: 252},
		{Index: mostNumber - 1, Term: 1, Conf: 6},
	} {
		holds(t, "no entries", made(t, b), b)
		next := command(b.Term+1, b.Index+1, "a")
		if b.Term == mostNumber {
			next.Term--
		}
		holds(t, "one entry", made(t, b, next), b, next)
	}
	b := api.Base{Index: mostNumber, Term: mostNumber, Conf: 254}
	holds(t, "the last base", made(t, b), b)
	refused(t, "behind the last base", b, none(mostNumber, mostNumber+1))
}

// TestWrongBases: 15.1, bases of which one part is not as it must be, or several are.
func TestWrongBases(t *testing.T) {
	right := 0
	for _, index := range []uint64{0, 1, 4, mostNumber, mostNumber + 1, 1 << 63, math.MaxUint64} {
		for _, term := range []uint64{0, 1, 2, mostNumber, mostNumber + 1, math.MaxUint64} {
			for _, set := range []int{0, 2, 14, 254, 1, 3, 15, 255, 256, 1 << 40, -2, -1, math.MinInt, math.MaxInt} {
				b := api.Base{Index: index, Term: term, Conf: set}
				if mayBe(b) {
					holds(t, "a right base", made(t, b), b)
					right++
					continue
				}
				refused(t, "a wrong base", b)
				refused(t, "a wrong base", b, none(term, index+1))
				refused(t, "a wrong base", b, none(1, 1))
			}
		}
	}
	if right != 1+3*3*3 {
		t.Errorf("%d bases were right", right)
	}
}

// TestOneWrongPart: 15.1, right bases, of which one part is set to what it may not be.
func TestOneWrongPart(t *testing.T) {
	for _, b := range []api.Base{
		{Index: 4}, {Term: 2}, {Conf: 14},
		{Term: 2, Conf: 14}, {Index: 4, Conf: 14}, {Index: 4, Term: 2},
		{Index: mostNumber + 1, Term: 2, Conf: 14}, {Index: 4, Term: mostNumber + 1, Conf: 14},
		{Index: 4, Term: 2, Conf: 15}, {Index: 4, Term: 2, Conf: 1}, {Index: 4, Term: 2, Conf: 256}, {Index: 4, Term: 2, Conf: -14},
	} {
		refused(t, "one part", b)
	}
}

// TestRightEntries: 15.1, entries that follow the base.
func TestRightEntries(t *testing.T) {
	for _, c := range []struct {
		b    api.Base
		some []api.Entry
	}{
		{base, example()},
		{base, row(none(2, 5))},
		{base, row(none(3, 5), none(3, 6), none(9, 7))},
		{base, row(command(2, 5, "a"), conf(2, 6, 6), none(mostNumber, 7))},
		{base, row(command(2, 5, strings.Repeat("d", mostData)), conf(2, 6, 254))},
		{base, run(5, make([]uint64, 0)...)},
		{base, run(5, 2, 2, 3, 3, 3, 5, 5, 8, 8, 8, 8, 8, 8, 8, 9, 9, 9)},
		{api.Base{}, run(1, 1, 1, 2)},
		{api.Base{}, row(none(mostNumber, 1))},
		{api.Base{Index: mostNumber - 2, Term: 7, Conf: 14}, run(mostNumber-1, 7, mostNumber)},
	} {
		holds(t, "right entries", made(t, c.b, c.some...), c.b, c.some...)
	}
}

// TestWrongEntries: 15.1, entries that do not follow the base.
func TestWrongEntries(t *testing.T) {
	for what, some := range map[string][]api.Entry{
		"too early":                   run(4, 2),
		"too early, and then right":   run(4, 2, 2, 2),
		"from 1 on":                   run(1, 2, 2),
		"from 0 on":                   run(0, 2, 2),
		"too late":                    run(6, 2),
		"far too late":                run(1<<40, 2),
		"one left out":                row(none(2, 5), none(2, 7)),
		"the last left out":           row(none(2, 5), none(2, 6), none(2, 8)),
		"one twice":                   row(none(2, 5), none(2, 5)),
		"the wrong way round":         row(none(2, 6), none(2, 5)),
		"one back":                    row(none(2, 5), none(2, 6), none(2, 5)),
		"a term below the base's":     run(5, 1),
		"a lower term at the end":     run(5, 2, 2, 1),
		"terms that fall":             run(5, 3, 2),
		"terms that fall at the end":  run(5, 2, 3, 4, 3),
		"terms that fall in between":  run(5, 2, 4, 3, 4),
		"term 0":                      run(5, 0),
		"a term that is too great":    run(5, mostNumber+1),
		"the greatest term":           run(5, math.MaxUint64),
		"no index":                    row(none(2, 5), none(2, 0)),
		"a great index":               row(none(2, 5), none(2, mostNumber+1)),
		"right ones behind a wrong":   run(6, 2, 2, 2),
		"right ones, then a low term": append(run(5, 2, 2, 2, 2), none(1, 9)),
	} {
		refused(t, what, base, some...)
	}
	zero := api.Base{}
	for what, some := range map[string][]api.Entry{
		"index 0":  run(0, 1),
		"index 2":  run(2, 1),
		"term 0":   run(1, 0),
		"falls":    run(1, 2, 1),
		"left out": row(none(1, 1), none(1, 3)),
	} {
		refused(t, "behind the zero base, "+what, zero, some...)
	}
}

// TestInvalidEntries: 15.1, entries one of which may not be, wherever it stands.
func TestInvalidEntries(t *testing.T) {
	for _, x := range wrong(2, 6) {
		if valid(x) {
			t.Errorf("%v may be", x)
		}
		refused(t, "not valid", base, none(2, 5), x)
		refused(t, "not valid", base, none(2, 5), x, none(2, 7))
		x.Index = 5
		refused(t, "not valid", base, x)
		refused(t, "not valid", base, x, none(2, 6))
		x.Index = 1
		refused(t, "not valid", api.Base{}, x)
	}
}

// TestExample: 15.1 and 15.2, the chapter's examples.
func TestExample(t *testing.T) {
	l := made(t, base, example()...)
	holds(t, "the example", l, base, example()...)
	if l.Last() != 6 {
		t.Errorf("15.1: Last: %d", l.Last())
	}
	if term, ok := l.Term(4); term != 2 || !ok {
		t.Errorf("15.1: Term(4): %d %t", term, ok)
	}
	if term, ok := l.Term(3); term != 0 || ok {
		t.Errorf("15.1: Term(3): %d %t", term, ok)
	}
	if !l.Good(6, 2) || l.Good(9, 1) {
		t.Errorf("15.2: Good(6, 2): %t, Good(9, 1): %t", l.Good(6, 2), l.Good(9, 1))
	}
}
