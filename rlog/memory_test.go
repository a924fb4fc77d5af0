package rlog_test

import (
	"bytes"
	"slices"
	"testing"

	"bursar/api"
	"bursar/rlog"
)

// scrawl writes over b and over the room behind it.
func scrawl(b []byte) {
	b = b[:cap(b)]
	for i := range b {
		b[i] = 0xee
	}
}

// scrawlAll writes over entries, over what they hold, and over the room behind them.
func scrawlAll(some []api.Entry) {
	some = some[:cap(some)]
	for i := range some {
		scrawl(some[i].Data)
		some[i] = api.Entry{Kind: 9, Term: 9, Index: 9, Data: []byte("?"), Conf: 9}
	}
}

// roomy answers entries with an index from 5 on, with room behind their row and behind
// what each holds, marked.
func roomy() []api.Entry {
	some := make([]api.Entry, 0, 8)
	for i, data := range []string{"ab", "c", "", "defg"} {
		b := append([]byte(data), bytes.Repeat([]byte{0xcc}, 9)...)
		x := api.Entry{Term: 2, Index: uint64(5 + i), Data: b[:len(data)]}
		if len(data) > 0 {
			x.Kind = api.EntryCmd
		}
		some = append(some, x)
	}
	copy(some[4:cap(some)], row(none(8, 8), command(9, 9, "room"), conf(7, 7, 2), none(6, 6)))
	return some
}

// plain are the entries of roomy.
func plain() []api.Entry {
	return row(command(2, 5, "ab"), command(2, 6, "c"), none(2, 7), command(2, 8, "defg"))
}

// deep answers entries in memory of their own, with those in the room behind the row, and
// with the room behind what each holds.
func deep(some []api.Entry) []api.Entry {
	c := slices.Clone(some[:cap(some)])
	for i := range c {
		c[i].Data = bytes.Clone(c[i].Data[:cap(c[i].Data)])
	}
	return c
}

// intakes are the ways to hand entries in: each answers a Log that has those of roomy.
func intakes(t *testing.T) map[string]func(some []api.Entry) *rlog.Log {
	return map[string]func(some []api.Entry) *rlog.Log{
		"New": func(some []api.Entry) *rlog.Log { return made(t, base, some...) },
		"Append": func(some []api.Entry) *rlog.Log {
			l := made(t, base)
			if e := l.Append(some...); e != api.OK {
				t.Errorf("15.2: Append: %d", e)
			}
			return l
		},
		"Append in two": func(some []api.Entry) *rlog.Log {
			l := made(t, base, some[:1]...)
			if e := l.Append(some[1:]...); e != api.OK {
				t.Errorf("15.2: Append: %d", e)
			}
			return l
		},
		"Put": func(some []api.Entry) *rlog.Log {
			l := made(t, base)
			if from, ok := l.Put(4, 2, some); from != 5 || !ok {
				t.Errorf("15.3: Put: %d %t", from, ok)
			}
			return l
		},
		"Put of some": func(some []api.Entry) *rlog.Log {
			l := made(t, base, append(twin(plain()[:2]), none(3, 7))...)
			if from, ok := l.Put(4, 2, some); from != 7 || !ok {
				t.Errorf("15.3: Put: %d %t", from, ok)
			}
			return l
		},
	}
}

// TestEntriesStay: R2, entries that are handed in are not changed, nor the room behind
// them, by calls that take them or refuse them, or by anything that is done then.
func TestEntriesStay(t *testing.T) {
	for what, take := range intakes(t) {
		some := roomy()
		before := deep(some)
		l := take(some)
		l.Append(some...)
		l.Put(4, 2, some)
		l.Put(4, 2, some[:1])
		l.Put(5, 2, some)
		l.Put(5, 2, run(6, 3, 3, 3, 3, 3))
		l.Append(run(11, 3, 3, 3)...)
		l.Compact(6)
		l.Restore(api.Base{Index: 4, Term: 2, Conf: 14})
		l.Append(some...)
		rlog.New(base, some[1:])
		if got := deep(some); !same(got, before) {
			t.Errorf("R2: %s: what was handed in is changed: %v, not %v", what, got, before)
		}
	}
}

// TestEntriesAreNotKept: R2, entries that were handed in may be written over.
func TestEntriesAreNotKept(t *testing.T) {
	for what, take := range intakes(t) {
		some := roomy()
		l := take(some)
		scrawlAll(some)
		holds(t, "R2: "+what+", written over", l, base, plain()...)
		if from, ok := l.Put(4, 2, plain()); from != 0 || !ok {
			t.Errorf("R2: %s: Put of what is there: %d %t", what, from, ok)
		}
	}
	l := made(t, base)
	for index := range l.All() {
		t.Errorf("15.1: All of no entries tells %d", index)
	}
	more := row(command(2, 5, "x"), command(2, 6, "y"))
	l.Append(more...)
	for range l.All() {
		scrawlAll(more)
	}
	holds(t, "R2: written over in a range", l, base, command(2, 5, "x"), command(2, 6, "y"))
}

// answers are the ways to be told all entries of a log.
func answers() map[string]func(l *rlog.Log) []api.Entry {
	return map[string]func(l *rlog.Log) []api.Entry{
		"Entries": func(l *rlog.Log) []api.Entry { return l.Entries(5, 99) },
		"just as many": func(l *rlog.Log) []api.Entry {
			return l.Entries(l.Base().Index+1, l.Len())
		},
		"All": told,
	}
}

// TestAnswersAreNew: R2, entries that are told share no memory with the log, with other
// answers, or with one another; nor does the room behind them.
func TestAnswersAreNew(t *testing.T) {
	for what, ask := range answers() {
		l := made(t, base, plain()...)
		one, other := ask(l), ask(l)
		for i := range one {
			scrawl(one[i].Data)
			if got := one[i+1:]; !same(got, plain()[i+1:]) {
				t.Errorf("R2: %s: those behind %d share its memory: %v", what, i, got)
			}
		}
		scrawlAll(one)
		if !same(other, plain()) {
			t.Errorf("R2: %s: another answer: %v", what, other)
		}
		holds(t, "R2: "+what+", written over", l, base, plain()...)
		l.Append(command(2, 9, "x"))
		scrawlAll(one)
		scrawlAll(append(other, none(9, 9)))
		holds(t, "R2: "+what+", then an Append", l, base, append(plain(), command(2, 9, "x"))...)
	}
}

// TestPartsAreNew: R2, a part of the entries, written over and appended to.
func TestPartsAreNew(t *testing.T) {
	for from := uint64(5); from <= 8; from++ {
		for most := 1; most <= 5; most++ {
			l := made(t, base, plain()...)
			part := append(l.Entries(from, most), none(9, 9))
			scrawlAll(part)
			holds(t, "R2: a part, written over", l, base, plain()...)
		}
	}
}

// TestWrittenOverInARange: R2, what a range tells may be written over at once.
func TestWrittenOverInARange(t *testing.T) {
	l := made(t, base, plain()...)
	all := l.All()
	for range 2 {
		k := 0
		for _, x := range all {
			if !same(row(x), plain()[k:k+1]) {
				t.Errorf("R2: entry %d, after those ahead of it were written over: %v", k, x)
			}
			scrawl(x.Data)
			k++
		}
	}
	holds(t, "R2: after all were written over", l, base, plain()...)
}

// TestAnswersStay: R2, what was told stays as it is, whatever is done to the log.
func TestAnswersStay(t *testing.T) {
	for what, change := range changes() {
		for which, ask := range answers() {
			l := made(t, base, many()...)
			got := ask(l)
			change(l)
			change(l)
			if !same(got, many()) {
				t.Errorf("R2: %s after %s: %v", which, what, got)
			}
		}
	}
}

// TestOwnAnswers: R2, what one log told may be handed in to it, or to another.
func TestOwnAnswers(t *testing.T) {
	l, other := made(t, base, plain()...), made(t, base)
	some := l.Entries(5, 99)
	if from, ok := other.Put(4, 2, some); from != 5 || !ok {
		t.Errorf("15.3: Put: %d %t", from, ok)
	}
	if from, ok := l.Put(4, 2, some); from != 0 || !ok {
		t.Errorf("15.3: Put: %d %t", from, ok)
	}
	l.Put(4, 2, run(5, 3))
	if e := other.Append(other.Entries(6, 0)...); e != api.OK {
		t.Errorf("15.2: Append: %d", e)
	}
	scrawlAll(some)
	holds(t, "R2: the other", other, base, plain()...)
	holds(t, "R2: one", l, base, run(5, 3)...)
}

// TestApart: R8, two logs do not know of each other, even where they are made of the same.
func TestApart(t *testing.T) {
	for what, change := range changes() {
		some := many()
		l, other := made(t, base, some...), made(t, base, some...)
		change(l)
		holds(t, "R8: the other, after "+what, other, base, many()...)
		b, left := l.Base(), told(l)
		change(other)
		change(other)
		holds(t, "R8: one, after "+what, l, b, left...)
	}
}
