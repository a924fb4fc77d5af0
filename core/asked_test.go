package core_test

import (
	"testing"

	"bursar/api"
)

// TestAsked: 17.4, item 1: who would vote says so in the term of which it is asked, and
// nothing of it changes.
func TestAsked(t *testing.T) {
	n := made(t, 2, api.Hard{Term: 4, Vote: 3}, none(3, 2), none(3, 3))
	ticks(n, 5)
	s := n.Status()
	for _, term := range []uint64{5, 6, 99, mostNumber} {
		for _, from := range []int{1, 3} {
			does(t, "just as good a log", n, asking(from, 2, term, 3, 3), would(2, from, term))
			does(t, "a longer log", n, asking(from, 2, term, 9, 3), would(2, from, term))
			does(t, "a log of a later term", n, asking(from, 2, term, 1, 4), would(2, from, term))
			does(t, "a shorter log", n, asking(from, 2, term, 2, 3), wouldNot(2, from, 4))
			does(t, "a log of an earlier term", n, asking(from, 2, term, 9, 2), wouldNot(2, from, 4))
			does(t, "no log", n, asking(from, 2, term, 0, 0), wouldNot(2, from, 4))
		}
	}
	for _, term := range []uint64{1, 3, 4} {
		does(t, "not a greater term", n, asking(3, 2, term, 9, 9), wouldNot(2, 3, 4))
	}
	stands(t, "questions", n, s, nil)
}

// TestAskedWhileLed: 17.4, item 1: who has heard of a leader less than Low ticks ago would
// not vote.
func TestAskedWhileLed(t *testing.T) {
	p := led(t, 0)
	for k := range 12 {
		want := wouldNot(2, 1, 4)
		if k >= 10 {
			want = would(2, 1, 5)
		}
		does(t, "asked while it is led", p.n, asking(1, 2, 5, 9, 9), want)
		if s := p.n.Status(); s.Lead != 3 || s.Elapsed != k {
			t.Errorf("17.4: a question changes %+v", s)
		}
		p.n.Tick(0)
	}
}

// TestAskedInRoles: 17.4, item 1: who canvasses or is a candidate would vote for another; a
// leader would not, however long it leads.
func TestAskedInRoles(t *testing.T) {
	does(t, "one who canvasses", asks(t).n, asking(1, 2, 5, 4, 3), would(2, 1, 5))
	does(t, "a candidate", candidate(t).n, asking(1, 2, 6, 4, 3), would(2, 1, 6))
	does(t, "a candidate, in its term", candidate(t).n, asking(1, 2, 5, 4, 3), wouldNot(2, 1, 5))
	does(t, "a voter", voter(t).n, asking(3, 2, 5, 4, 3), would(2, 3, 5))
	n := leading(t).n
	for range 40 {
		does(t, "a leader", n, asking(1, 2, 9, 9, 9), wouldNot(2, 1, 5))
		n.Tick(0)
		n.Take()
	}
}

// TestCanvassGoesOn: 17.4, item 1: a question does not end what a node asks itself.
func TestCanvassGoesOn(t *testing.T) {
	n := asks(t).n
	does(t, "it is asked", n, asking(1, 2, 5, 9, 9), would(2, 1, 5))
	does(t, "it is asked of an old term", n, asking(1, 2, 4, 9, 9), wouldNot(2, 1, 4))
	does(t, "one would vote", n, would(1, 2, 5), voting(2, 1, 5, 4, 3), voting(2, 3, 5, 4, 3))
}

// TestAdvice: 17.4, item 2: who has more than half that would vote stands for election.
func TestAdvice(t *testing.T) {
	n := asks(t).n
	s := n.Status()
	does(t, "of the node's own term", n, would(1, 2, 4))
	does(t, "of an earlier term", n, would(1, 2, 3))
	does(t, "of a term too great", n, would(1, 2, 6))
	does(t, "refused in its term", n, wouldNot(1, 2, 4))
	does(t, "refused in an earlier term", n, wouldNot(3, 2, 1))
	does(t, "a vote, not an advice", n, votesNot(1, 2, 4))
	does(t, "a vote, not an advice", n, votes(1, 2, 4))
	stands(t, "what does not count", n, s, nil)
	o := does(t, "one would", n, would(1, 2, 5), voting(2, 1, 5, 4, 3), voting(2, 3, 5, 4, 3))
	if o.Hard != (api.Hard{Term: 5, Vote: 2}) {
		t.Errorf("17.3: it stands with %v", o.Hard)
	}
	stands(t, "one would", n, s, func(s *api.Status) { s.Hard, s.Role = api.Hard{Term: 5, Vote: 2}, api.Candidate })
	does(t, "another would, now too late", n, would(3, 2, 5))
	does(t, "another would, of its next term", n, would(3, 2, 6))
	stands(t, "a candidate asks no more", n, s, func(s *api.Status) { s.Hard, s.Role = api.Hard{Term: 5, Vote: 2}, api.Candidate })
}

// TestRefusedAdvice: 17.4, item 2: who is told of a greater term follows it, in any role.
func TestRefusedAdvice(t *testing.T) {
	for name, of := range roles() {
		p := of(t)
		s := p.n.Status()
		does(t, name+", refused with its own term", p.n, wouldNot(1, 2, max(1, s.Hard.Term)))
		if s.Hard.Term > 0 {
			stands(t, name+", refused with its own term", p.n, s, nil)
		}
		o := does(t, name+", refused with a greater term", p.n, wouldNot(3, 2, 77))
		stands(t, name+", refused with a greater term", p.n, s, func(s *api.Status) {
			s.Hard, s.Lead, s.Role, s.Receiving, s.Buffered = api.Hard{Term: 77}, 0, api.Follower, 0, 0
		})
		keeps(t, name, o, api.Snap{}, false)
		does(t, name+", then an advice of the term before", p.n, would(1, 2, s.Hard.Term+1))
		does(t, name+", then an advice of the next term", p.n, would(1, 2, 78))
		does(t, name+", then a vote", p.n, votes(1, 2, 77))
		if got := p.n.Status(); got.Hard != (api.Hard{Term: 77}) || got.Role != api.Follower {
			t.Errorf("17.2: %s: it has not stopped canvassing: %+v", name, got)
		}
	}
}

// TestStopsCanvassing: 17.4, what makes a node ask no more, and what does not.
func TestStopsCanvassing(t *testing.T) {
	b := api.Base{Index: 9, Term: 4, Conf: 14}
	for what, c := range map[string]struct {
		m    api.Msg
		ends bool
	}{
		"a question":                   {asking(1, 2, 5, 9, 9), false},
		"a refusal":                    {wouldNot(1, 2, 4), false},
		"a vote refused":               {voting(1, 2, 4, 0, 0), false},
		"a vote given":                 {voting(1, 2, 4, 9, 9), true},
		"a vote of a lower term":       {voting(1, 2, 3, 9, 9), false},
		"a vote of a greater term":     {voting(1, 2, 5, 0, 0), true},
		"a vote's reply of its term":   {votes(1, 2, 4), false},
		"a vote's reply of a greater":  {votesNot(1, 2, 5), true},
		"entries of its term":          {appends(1, 2, 4, 4, 3, 2), true},
		"entries that do not fit":      {appends(1, 2, 4, 8, 3, 2), true},
		"entries of what is committed": {appends(1, 2, 4, 1, 1, 2), true},
		"entries of a lower term":      {appends(1, 2, 3, 4, 3, 2), false},
		"entries of a greater term":    {appends(1, 2, 5, 4, 3, 2), true},
		"an answer of its term":        {has(1, 2, 4, 4), false},
		"an answer of a greater term":  {has(1, 2, 6, 4), true},
		"a piece of its term":          {piece(1, 2, 4, b, 0, nil, false), true},
		"a piece of what it has":       {piece(1, 2, 4, base, 0, nil, true), true},
		"a piece of a lower term":      {piece(1, 2, 3, b, 0, nil, true), false},
		"a piece's answer of its term": {wants(1, 2, 4, base, 0), false},
		"a piece's answer of another":  {wants(1, 2, 5, base, 0), true},
	} {
		n := asks(t).n
		if e := n.Step(c.m, 0); e != api.OK {
			t.Errorf("17.4: %s: %d", what, e)
		}
		n.Take()
		n.Step(would(3, 2, n.Status().Hard.Term+1), 0)
		if s := n.Status(); (s.Role == api.Candidate) == c.ends {
			t.Errorf("17.4: %s, then one would vote: %+v", what, s)
		}
	}
}

// TestMajorities: 17.3 and 17.4, more than half of groups of many sizes are needed, to
// stand and to lead; a vote that comes twice counts once, one from outside does not count.
func TestMajorities(t *testing.T) {
	for _, c := range []struct{ set, id, need int }{
		{6, 1, 2}, {6, 2, 2}, {14, 1, 2}, {14, 3, 2}, {30, 2, 3}, {62, 5, 3}, {126, 1, 4}, {254, 4, 4}, {254, 7, 4},
		{2 + 32, 5, 2}, {2 + 8 + 128, 7, 2}, {4 + 8 + 32 + 128, 3, 3}, {2, 1, 1}, {128, 7, 1},
	} {
		s := api.Snap{Base: api.Base{Index: 1, Term: 1, Conf: c.set}}
		n := begun(t, config(7), c.id, api.Hard{Term: 1}, s, 0)
		canvasses(t, n)
		have := 1
		for p := 1; p <= 7; p++ {
			if stands := n.Status().Role != api.Follower; stands != (have >= c.need) {
				t.Errorf("17.4: with %d of %d that would vote: %+v", have, c.set, n.Status())
			}
			if p == c.id || have >= c.need {
				continue
			}
			n.Step(would(p, c.id, 2), 0)
			n.Step(would(p, c.id, 2), 0)
			if c.set&(1<<p) != 0 {
				have++
			}
		}
		have = 1
		for p := 7; p >= 1; p-- {
			if leads := n.Status().Role == api.Leader; leads != (have >= c.need) || n.Status().Hard != (api.Hard{Term: 2, Vote: c.id}) {
				t.Errorf("17.4: with %d votes of %d: %+v", have, c.set, n.Status())
			}
			if p == c.id || have >= c.need {
				continue
			}
			n.Step(votesNot(p, c.id, 2), 0)
			n.Step(votes(p, c.id, 2), 0)
			n.Step(votes(p, c.id, 2), 0)
			if c.set&(1<<p) != 0 {
				have++
			}
		}
		if n.Status().Role != api.Leader {
			t.Errorf("17.4: with all votes of %d: %+v", c.set, n.Status())
		}
	}
}
