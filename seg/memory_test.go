package seg_test

import (
	"bytes"
	"slices"
	"testing"

	"bursar/api"
)

// scrawl writes over b and over the room behind it.
func scrawl(b []byte) {
	b = b[:cap(b)]
	for i := range b {
		b[i] = 0xee
	}
}

// scrawlAll writes over entries, over what they hold, and over the room behind them.
func scrawlAll(some []api.Entry) {
	some = some[:cap(some)]
	for i := range some {
		scrawl(some[i].Data)
		some[i] = api.Entry{Kind: 9, Term: 9, Index: 9, Data: []byte("?"), Conf: 9}
	}
}

// roomy answers entries with room behind their row and behind what each holds, marked.
func roomy() []api.Entry {
	some := make([]api.Entry, 0, 8)
	for i, data := range []string{"ab", "c", "defg"} {
		b := append([]byte(data), bytes.Repeat([]byte{0xcc}, 9)...)
		some = append(some, api.Entry{Kind: api.EntryCmd, Term: 2, Index: uint64(5 + i), Data: b[:len(data)]})
	}
	copy(some[3:cap(some)], []api.Entry{none(8, 8), command(9, 9, "room"), conf(7, 7, 2)})
	return some
}

// twin answers entries in memory of their own, those in the room behind the row as well.
func twin(some []api.Entry) []api.Entry {
	c := slices.Clone(some[:cap(some)])
	for i := range c {
		c[i].Data = bytes.Clone(c[i].Data[:cap(c[i].Data)])
	}
	return c
}

// TestEntriesStay: R2, entries that are handed in are not changed, nor the room behind
// them, by an Append that is OK or by one that is not.
func TestEntriesStay(t *testing.T) {
	some := roomy()
	before := twin(some)
	d, l := begun(t, leastLimit)
	for _, c := range []call{add(some...), add(some...), cut(6), add(some[1:]...), reset(), add(some[:1]...), add(some[2:]...)} {
		c.on(l)
		if got := twin(some); !same(got, before) {
			t.Fatalf("R2: %s changed what was handed in: %v, not %v", c.what, got, before)
		}
	}
	d.Crash(2, 1)
	opened(t, d, leastLimit)
	if got := twin(some); !same(got, before) {
		t.Errorf("R2: what was handed in is changed: %v, not %v", got, before)
	}
}

// TestEntriesAreNotKept: R2, entries that were handed in may be written over.
func TestEntriesAreNotKept(t *testing.T) {
	some := roomy()
	want := row(command(2, 5, "ab"), command(2, 6, "c"), command(2, 7, "defg"))
	d, l := begun(t, leastLimit, some...)
	scrawlAll(some)
	holds(t, "R2: after they were written over", l, want)
	asks(t, "R2: after they were written over", l, add(none(2, 8)), api.OK)
	holds(t, "R2: after they were written over", opened(t, d, leastLimit), append(want, none(2, 8)))
	more := row(command(2, 9, "x"), command(2, 10, "y"))
	for x := range l.All() {
		if x.Index == 5 {
			asks(t, "R2: in the midst", l, add(more...), api.OK)
			scrawlAll(more)
		}
	}
	want = append(want, none(2, 8), command(2, 9, "x"), command(2, 10, "y"))
	holds(t, "R2: in the midst", l, want)
	holds(t, "R2: in the midst, opened anew", opened(t, d, leastLimit), want)
}

// TestAnswersAreNew: R2, entries that are told share no memory with the log, with other
// answers, or with one another; nor does the room behind them.
func TestAnswersAreNew(t *testing.T) {
	want := row(command(2, 5, "ab"), command(2, 6, "c"), none(2, 7), command(2, 8, "defg"))
	d, l := begun(t, leastLimit, want...)
	one, other := l.List(), l.List()
	for i := range one {
		scrawl(one[i].Data)
		if got := one[i+1:]; !same(got, want[i+1:]) {
			t.Errorf("R2: those behind %d share its memory: %v", i, got)
		}
	}
	scrawlAll(one)
	if !same(other, want) {
		t.Errorf("R2: another answer of List: %v", other)
	}
	holds(t, "R2: after a List was written over", l, want)
	all := l.All()
	for range 2 {
		var kept []api.Entry
		for x := range all {
			kept = append(kept, x)
		}
		if !same(kept, want) {
			t.Errorf("R2: All tells %v", kept)
		}
		scrawlAll(kept)
	}
	i := 0
	for x := range all {
		if !same(row(x), want[i:i+1]) {
			t.Errorf("R2: entry %d, after those ahead of it were written over: %v", i, x)
		}
		scrawl(x.Data)
		i++
	}
	holds(t, "R2: after all were written over", l, want)
	holds(t, "R2: after all were written over, opened anew", opened(t, d, leastLimit), want)
}

// TestAnswersStay: R2, what was told stays as it is, whatever the log does.
func TestAnswersStay(t *testing.T) {
	want := row(command(2, 5, "ab"), command(2, 6, "c"), command(2, 7, "defg"))
	_, l := begun(t, leastLimit, want...)
	list, first := l.List(), firsts(l, 1)
	for _, c := range []call{cut(6), add(command(2, 6, "QQQQ"), command(3, 7, "RRRR")), reset(), add(command(2, 5, "SS"), command(2, 6, "T"))} {
		asks(t, "R2: what was told", l, c, api.OK)
		if !same(list, want) || !same(first, want[:1]) {
			t.Errorf("R2: after %s: %v %v", c.what, list, first)
		}
	}
}

// TestApart: R8, logs on two disks do not know of each other.
func TestApart(t *testing.T) {
	d, one := begun(t, leastLimit, run(2, 5, 7)...)
	f, other := begun(t, mostLimit, run(3, 5, 9)...)
	asks(t, "R8: one", one, cut(6), api.OK)
	asks(t, "R8: the other", other, add(run(3, 10, 11)...), api.OK)
	d.Fuse(0)
	asks(t, "R8: one goes down", one, reset(), api.ErrDown)
	holds(t, "R8: the other", other, run(3, 5, 11))
	d.Crash(5, 0)
	holds(t, "R8: one", opened(t, d, leastLimit), run(2, 5, 5))
	lies(t, "R8: the other", f, named(map[uint64]string{5: file(run(3, 5, 11)...)}))
}

// TestSame: R4, the same calls have the same results, also on other disks.
func TestSame(t *testing.T) {
	told := func() (told []string) {
		d, l := begun(t, 100, run(2, 1, 40)...)
		for i, c := range []call{cut(33), drop(9), add(run(4, 33, 50)...), add(none(4, 99)), drop(20), cut(45), add(run(5, 45, 60)...)} {
			told = append(told, short(c.on(l)), short(d.Names()), short(firsts(l, 3)), short(l.Last()))
			if i%2 == 1 {
				d.Crash(d.Pending()-i, 7)
				l = opened(t, d, 100)
			}
		}
		return told
	}
	first := told()
	for range 10 {
		if !slices.Equal(told(), first) {
			t.Fatal("R4: the same calls, other results")
		}
	}
}
