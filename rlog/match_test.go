package rlog_test

import (
	"fmt"
	"math/rand/v2"
	"testing"

	"bursar/api"
	"bursar/rlog"
)

// agreed fails where two logs have an index with the same term, but not the same entries
// up to there, as far as both have them.
func agreed(t *testing.T, what string, one, other *rlog.Log) {
	t.Helper()
	from := max(one.Base().Index, other.Base().Index)
	some, others := one.Entries(from+1, 1<<20), other.Entries(from+1, 1<<20)
	for k := min(len(some), len(others)); k > 0; k-- {
		if some[k-1].Term == others[k-1].Term {
			if !same(some[:k], others[:k]) {
				t.Errorf("15.5: %s: both have %d of term %d, but %s and %s", what, some[k-1].Index, some[k-1].Term, short(some[:k]), short(others[:k]))
			}
			return
		}
	}
}

// hands puts the entries of one log from an index on, and no more than most, into another
// that has that index with the same term. It fails where they do not agree then up to the
// last of these.
func hands(t *testing.T, what string, one, other *rlog.Log, index uint64, most int) {
	t.Helper()
	term, ok := one.Term(index)
	if own, has := other.Term(index); !ok || !has || own != term {
		return
	}
	some, before := one.Entries(index+1, most), told(other)
	from, ok := other.Put(index, term, some)
	if !ok {
		t.Errorf("15.5: %s: Put(%d, %d, %s): %d %t", what, index, term, short(some), from, ok)
		return
	}
	first := max(one.Base().Index, other.Base().Index) + 1
	upTo := index + uint64(len(some)) + 1 - first
	if got, want := other.Entries(first, int(upTo)), one.Entries(first, int(upTo)); uint64(len(got)) != upTo || !same(got, want) {
		t.Errorf("15.5: %s: Put(%d, %d, %s) into %s: %s, not %s", what, index, term, short(some), short(before), short(got), short(want))
	}
	agreed(t, what, one, other)
}

// TestEveryPair: 15.5, all pairs of short logs of which one has all that the other has up
// to the last index with the same term, and all that can be put into one from the other.
func TestEveryPair(t *testing.T) {
	all, pairs := rows(4, 4), 0
	for _, terms := range all {
		for _, others := range all {
			if !matching(terms, others) {
				continue
			}
			pairs++
			for place := range 25 {
				b := api.Base{Index: 7, Term: 1, Conf: 14}
				one, other := made(t, b, marked(terms)...), made(t, b, marked(others)...)
				hands(t, fmt.Sprint(terms, " into ", others), one, other, 7+uint64(place/5), place%5)
			}
		}
	}
	if pairs < 1000 {
		t.Errorf("%d pairs only", pairs)
	}
}

// matching tells whether two rows of terms are the same up to every place where they have
// the same term.
func matching(some, others []uint64) bool {
	alike := true
	for k := range min(len(some), len(others)) {
		if some[k] == others[k] && !alike {
			return false
		}
		alike = alike && some[k] == others[k]
	}
	return true
}

// marked answers commands behind index 7 with these terms; each holds its term and index.
func marked(terms []uint64) []api.Entry {
	var some []api.Entry
	for k, term := range terms {
		some = append(some, command(term, 8+uint64(k), fmt.Sprint(term, 8+k)))
	}
	return some
}

// group are logs of one group, of which each term has its one leader.
type group struct {
	rnd  *rand.Rand
	logs []*rlog.Log
	term uint64
	lead int
	said int
}

// step lets one thing happen: a new leader, new entries of it, or what it has goes to
// another log; now and then entries of any log do, or go up to a base.
func (g *group) step(t *testing.T) {
	t.Helper()
	one, other := g.rnd.IntN(len(g.logs)), g.rnd.IntN(len(g.logs))
	switch g.rnd.IntN(9) {
	case 0:
		g.term, g.lead = g.term+1, one
	case 1, 2:
		g.says(t)
	case 3, 4, 5, 6:
		one = g.lead
		fallthrough
	case 7:
		l := g.logs[one]
		index := l.Base().Index + uint64(g.rnd.IntN(l.Len()+1))
		hands(t, fmt.Sprint(one, " into ", other), l, g.logs[other], index, g.rnd.IntN(6))
	case 8:
		if l := g.logs[one]; l.Len() > 8 {
			l.Compact(l.Base().Index + 1 + uint64(g.rnd.IntN(l.Len()-6)))
		}
	}
}

// says appends entries to the log of the leader, each of which is told nowhere else.
func (g *group) says(t *testing.T) {
	t.Helper()
	l := g.logs[g.lead]
	for range 1 + g.rnd.IntN(3) {
		g.said++
		x := command(g.term, l.Last()+1, fmt.Sprint(g.said))
		if g.rnd.IntN(5) == 0 {
			x = conf(g.term, l.Last()+1, 2*(1+g.rnd.IntN(127)))
		}
		if e := l.Append(x); e != api.OK {
			t.Errorf("15.2: Append(%v): %d", x, e)
		}
	}
}

// TestGroups: 15.5, logs drawn from groups of terms: behind each Put two have the same
// entries up to the last of these, and what they agreed about they agree about always.
func TestGroups(t *testing.T) {
	changed := 0
	for seed := range uint64(60) {
		g := &group{rnd: rand.New(rand.NewPCG(15, seed)), term: 1}
		for range 2 + g.rnd.IntN(4) {
			g.logs = append(g.logs, made(t, api.Base{}))
		}
		for n := 0; n < 300 && !t.Failed(); n++ {
			before := told(g.logs[0])
			g.step(t)
			if now := told(g.logs[0]); len(now) < len(before) && g.logs[0].Last() < before[len(before)-1].Index {
				changed++
			}
			for k, one := range g.logs {
				for _, other := range g.logs[:k] {
					agreed(t, "of a group", one, other)
				}
			}
		}
	}
	if changed < 20 && !t.Failed() {
		t.Errorf("entries were taken back %d times only", changed)
	}
}
