package core_test

import (
	"testing"

	"bursar/api"
	"bursar/core"
)

// TestBeat: 17.3, a leader sends to all others at each Beat, and no sooner.
func TestBeat(t *testing.T) {
	for _, beat := range []int{1, 2, 3, 9} {
		c := config(3)
		c.Beat = beat
		n := leads(t, begun(t, c, 2, api.Hard{Term: 1}, snap(), 3))
		s := n.Status()
		for range 3 {
			for k := 1; k < beat; k++ {
				n.Tick(7)
				stands(t, "a tick ahead of the Beat", n, s, func(s *api.Status) { s.Elapsed = k })
				tells(t, "17.3: ahead of the Beat", n)
			}
			n.Tick(7)
			stands(t, "at the Beat", n, s, nil)
			tells(t, "17.3: at the Beat", n, appends(2, 1, 2, 1, 1, 1, none(2, 2)), appends(2, 3, 2, 1, 1, 1, none(2, 2)))
		}
	}
}

// TestBeatOfMany: 17.2 and 17.3, a leader sends to the others as they rise, members only.
func TestBeatOfMany(t *testing.T) {
	for _, c := range []struct{ set, id int }{{254, 1}, {254, 4}, {254, 7}, {2 + 8 + 32 + 128, 3}, {4 + 64, 2}, {16, 4}} {
		n := leads(t, begun(t, config(7), c.id, api.Hard{Term: 1}, api.Snap{Base: api.Base{Index: 1, Term: 1, Conf: c.set}}, 3))
		commit := n.Status().Commit
		ticks(n, 2)
		var want []api.Msg
		for _, p := range members(c.set) {
			if p != c.id {
				want = append(want, appends(c.id, p, 2, 1, 1, commit, none(2, 2)))
			}
		}
		tells(t, "17.3: a leader of many", n, want...)
	}
}

// TestLimit: 17.3, who hears of no leader canvasses at its Limit, and no sooner.
func TestLimit(t *testing.T) {
	n := made(t, 1, api.Hard{Term: 4, Vote: 3}, none(2, 2))
	was := n.Status()
	for k := 1; k < 13; k++ {
		n.Tick(7)
		stands(t, "a tick ahead of its Limit", n, was, func(s *api.Status) { s.Elapsed = k })
		tells(t, "17.3: ahead of its Limit", n)
	}
	n.Tick(7)
	stands(t, "at its Limit", n, was, func(s *api.Status) { s.Limit = 17 })
	o := tells(t, "17.3: at its Limit", n, asking(1, 2, 5, 2, 2), asking(1, 3, 5, 2, 2))
	keeps(t, "at its Limit", o, api.Snap{}, false)
	for k := 1; k < 17; k++ {
		n.Tick(9)
	}
	tells(t, "17.3: ahead of its next Limit", n)
	n.Tick(9)
	stands(t, "at its next Limit", n, was, func(s *api.Status) { s.Limit = 19 })
	tells(t, "17.3: at its next Limit", n, asking(1, 2, 5, 2, 2), asking(1, 3, 5, 2, 2))
}

// TestLimitOfLed: 17.3, who canvasses knows of no leader any more, and what it had of a
// snapshot goes.
func TestLimitOfLed(t *testing.T) {
	n := made(t, 1, api.Hard{Term: 4})
	n.Step(piece(2, 1, 4, api.Base{Index: 9, Term: 4, Conf: 14}, 0, stuff(5), false), 0)
	n.Take()
	s := n.Status()
	if s.Lead != 2 || s.Receiving != 1 || s.Buffered != 5 {
		t.Fatalf("17.4: %+v", s)
	}
	ticks(n, 12)
	stands(t, "ahead of its Limit", n, s, func(s *api.Status) { s.Elapsed = 12 })
	n.Tick(0)
	stands(t, "at its Limit", n, s, func(s *api.Status) { s.Lead, s.Receiving, s.Buffered, s.Limit = 0, 0, 0, 10 })
}

// TestLimitOfCandidate: 17.3, a candidate that does not win canvasses again, in its term
// and with its vote; what it had of votes is gone.
func TestLimitOfCandidate(t *testing.T) {
	c := config(5)
	n := begun(t, c, 1, api.Hard{Term: 1}, api.Snap{Base: api.Base{Index: 1, Term: 1, Conf: 62}}, 0)
	runs(t, n)
	n.Take()
	does(t, "one vote", n, votes(2, 1, 2))
	s := n.Status()
	ticks(n, 9)
	stands(t, "ahead of its Limit", n, s, func(s *api.Status) { s.Elapsed = 9 })
	n.Tick(4)
	stands(t, "at its Limit", n, s, func(s *api.Status) { s.Role, s.Limit = api.Follower, 14 })
	tells(t, "17.3: at its Limit", n, asking(1, 2, 3, 1, 1), asking(1, 3, 3, 1, 1), asking(1, 4, 3, 1, 1), asking(1, 5, 3, 1, 1))
	does(t, "a vote that comes late", n, votes(3, 1, 2))
	does(t, "one that would vote", n, would(3, 1, 3))
	stands(t, "two of five", n, s, func(s *api.Status) { s.Role, s.Limit = api.Follower, 14 })
	does(t, "another that would", n, would(5, 1, 3), voting(1, 2, 3, 1, 1), voting(1, 3, 3, 1, 1), voting(1, 4, 3, 1, 1), voting(1, 5, 3, 1, 1))
	does(t, "one vote", n, votes(4, 1, 3))
	stands(t, "those that would have not voted yet", n, s, func(s *api.Status) { s.Hard.Term, s.Limit = 3, 14 })
}

// TestMostTicks: 17.3, Elapsed grows to MaxTicks, and no more.
func TestMostTicks(t *testing.T) {
	n := begun(t, config(3), 1, api.Hard{Term: 1}, api.Snap{Base: api.Base{Index: 1, Term: 1, Conf: 12}}, 0)
	was := n.Status()
	for _, k := range []int{mostTicks - 1, 1, 1, 5} {
		ticks(n, k)
		was.Elapsed = min(was.Elapsed+k, mostTicks)
		stands(t, "many ticks", n, was, nil)
	}
	tells(t, "17.3: who may not lead, after many ticks", n)
}

// TestOthersStay: 17.3, who may not canvass does nothing but count its ticks; who may, does
// at its Limit, or at the first tick behind it.
func TestOthersStay(t *testing.T) {
	at := func(conf int) api.Snap { return api.Snap{Base: api.Base{Index: 4, Term: 2, Conf: conf}} }
	for what, c := range map[string]struct {
		s    api.Snap
		some []api.Entry
		may  bool
	}{
		"a member":                         {at(14), nil, true},
		"a member by an entry":             {at(12), row(conf(2, 5, 14)), true},
		"a member, by its own log alone":   {at(2), nil, true},
		"no member":                        {at(12), nil, false},
		"nothing":                          {api.Snap{}, nil, false},
		"no snapshot, a member":            {api.Snap{}, row(conf(1, 1, 6)), true},
		"no snapshot, no member":           {api.Snap{}, row(conf(1, 1, 12)), false},
		"a member before":                  {at(14), row(conf(2, 5, 12)), true},
		"a member before, by an entry":     {at(12), row(conf(2, 5, 14), none(2, 6), conf(2, 7, 12)), true},
		"a member before the one before":   {at(14), row(conf(2, 5, 12), conf(2, 6, 28)), false},
		"a member long before":             {at(14), row(conf(2, 5, 12), none(2, 6), none(2, 7), conf(2, 8, 4)), false},
		"no member before, but one now":    {at(12), row(none(2, 5), conf(2, 6, 14)), true},
		"a member of others that are more": {at(254), nil, true},
	} {
		n := begun(t, config(3), 1, api.Hard{Term: 2}, c.s, 0, c.some...)
		was := n.Status()
		ticks(n, 9)
		stands(t, what+", ahead of its Limit", n, was, func(s *api.Status) { s.Elapsed = 9 })
		n.Tick(2)
		o := n.Take()
		if asks := len(o.Msgs) > 0 || n.Status().Role == api.Leader; asks != c.may {
			t.Errorf("17.3: %s: at its Limit: %+v", what, n.Status())
		}
		if !c.may {
			n.Tick(2)
			stands(t, what+", behind its Limit", n, was, func(s *api.Status) { s.Elapsed = 11 })
		}
	}
}

// TestLeftBehind: 17.1 and 17.3, who is taken out may lead until that is committed, and
// may not then; who was long at its Limit canvasses as soon as it may.
func TestLeftBehind(t *testing.T) {
	n := made(t, 1, api.Hard{Term: 2}, conf(2, 2, 12))
	does(t, "its leader", n, appends(2, 1, 2, 2, 2, 1), has(1, 2, 2, 2))
	canvasses(t, n)
	tells(t, "17.3: taken out, not committed", n, asking(1, 2, 3, 2, 2), asking(1, 3, 3, 2, 2))
	does(t, "its leader", n, appends(2, 1, 2, 2, 2, 2), has(1, 2, 2, 2))
	was := n.Status()
	ticks(n, 40)
	stands(t, "taken out, and that is committed", n, was, func(s *api.Status) { s.Elapsed = 40 })
	tells(t, "17.3: taken out, and that is committed", n)

	n = begun(t, config(3), 1, api.Hard{Term: 1}, api.Snap{}, 0)
	ticks(n, 30)
	tells(t, "17.3: of no group", n)
	does(t, "it is asked to vote", n, voting(2, 1, 2, 9, 1), votes(1, 2, 2))
	ticks(n, 30)
	if e := n.Step(appends(2, 1, 2, 0, 0, 0, conf(2, 1, 6)), 0); e != api.OK {
		t.Errorf("17.4: %d", e)
	}
	n.Take()
	was = n.Status()
	ticks(n, 14)
	stands(t, "it has joined", n, was, func(s *api.Status) { s.Elapsed = 14 })
	n.Tick(0)
	tells(t, "17.3: it has joined", n, asking(1, 2, 3, 1, 2))
}

// TestLate: 17.3, who was not eligible at its Limit canvasses behind it, as soon as it is.
func TestLate(t *testing.T) {
	n := begun(t, config(3), 1, api.Hard{Term: 2}, api.Snap{Base: api.Base{Index: 1, Term: 1, Conf: 12}}, 0)
	ticks(n, 500)
	was := n.Status()
	// A message of a lower term changes nothing, so Elapsed stays as it is.
	does(t, "of a lower term", n, appends(2, 1, 1, 1, 1, 1, conf(1, 2, 14)), lacks(1, 2, 2, 0))
	stands(t, "of a lower term", n, was, nil)
	// Not to be led makes it ready; only entries make it a member, and they come from a leader.
	does(t, "of its term", n, appends(2, 1, 2, 1, 1, 1, conf(1, 2, 14)), has(1, 2, 2, 2))
	stands(t, "of its term", n, was, func(s *api.Status) { s.Lead, s.Elapsed, s.Last, s.Conf, s.ConfIndex = 2, 0, 2, 14, 2 })
}

// TestNumbersEnd: 17.3, who has a Term or a Last as great as they may be asks nobody.
func TestNumbersEnd(t *testing.T) {
	for _, c := range []struct {
		h    api.Hard
		b    api.Base
		some []api.Entry
		may  bool
	}{
		{api.Hard{Term: mostNumber - 1}, base, nil, true},
		{api.Hard{Term: mostNumber}, base, nil, false},
		{api.Hard{Term: 1}, api.Base{Index: mostNumber - 1, Term: 1, Conf: 14}, nil, true},
		{api.Hard{Term: 1}, api.Base{Index: mostNumber, Term: 1, Conf: 14}, nil, false},
		{api.Hard{Term: 1}, api.Base{Index: mostNumber - 2, Term: 1, Conf: 14}, run(mostNumber-1, 1), true},
		{api.Hard{Term: 1}, api.Base{Index: mostNumber - 2, Term: 1, Conf: 14}, run(mostNumber-1, 1, 1), false},
		{api.Hard{Term: mostNumber}, api.Base{Index: mostNumber, Term: mostNumber, Conf: 14}, nil, false},
		{api.Hard{Term: mostNumber - 1}, api.Base{Index: mostNumber - 1, Term: mostNumber - 1, Conf: 14}, nil, true},
	} {
		for _, set := range []int{14, 2} {
			c.b.Conf = set
			n := begun(t, config(3), 1, c.h, api.Snap{Base: c.b}, 0, c.some...)
			was := n.Status()
			ticks(n, 10)
			s := n.Status()
			o := n.Take()
			switch {
			case !c.may && (s.Elapsed != 10 || s.Hard != c.h || len(o.Msgs) > 0):
				t.Errorf("17.3: with %v %v and %s: %+v, it sends %s", c.h, c.b, short(c.some), s, short(o.Msgs))
			case c.may && set == 14 && (s != was || len(o.Msgs) != 2 || !sameMsg(o.Msgs[0], asking(1, 2, c.h.Term+1, was.Last, lastTerm(n)))):
				t.Errorf("17.3: with %v %v and %s: %+v, it sends %s", c.h, c.b, short(c.some), s, short(o.Msgs))
			case c.may && set == 2 && (s.Role != api.Leader || s.Hard.Term != c.h.Term+1 || s.Commit != was.Last+1):
				t.Errorf("17.3: alone, with %v %v: %+v", c.h, c.b, s)
			}
		}
	}
}

// lastTerm answers the term of the last entry of a node, or of its base.
func lastTerm(n *core.Core) uint64 {
	term, _ := n.Term(n.Status().Last)
	return term
}

// TestAlone: 17.3, a group of one canvasses, stands, leads and commits in one tick.
func TestAlone(t *testing.T) {
	n := begun(t, config(1), 1, api.Hard{Term: 3}, api.Snap{Base: api.Base{Index: 1, Term: 1, Conf: 2}}, 0, command(2, 2, "a"), none(3, 3))
	was := n.Status()
	ticks(n, 9)
	stands(t, "ahead of its Limit", n, was, func(s *api.Status) { s.Elapsed = 9 })
	n.Tick(6)
	stands(t, "at its Limit", n, was, func(s *api.Status) {
		s.Role, s.Lead, s.Hard, s.Last, s.Commit, s.Limit = api.Leader, 1, api.Hard{Term: 4, Vote: 1}, 4, 4, 16
	})
	o := tells(t, "17.3: alone", n)
	keeps(t, "alone", o, api.Snap{}, false, none(4, 4))
	ticks(n, 10)
	tells(t, "17.3: a leader that is alone", n)
	if at, e := n.Propose([]byte("b")); at != 5 || e != api.OK || n.Status().Commit != 5 {
		t.Errorf("17.5: Propose of one alone: %d %d %+v", at, e, n.Status())
	}
}

// TestOwnVoteAbroad: 17.2 and 17.3, the own vote of one that is taken out does not count.
func TestOwnVoteAbroad(t *testing.T) {
	n := begun(t, config(2), 1, api.Hard{Term: 2}, api.Snap{Base: api.Base{Index: 1, Term: 1, Conf: 2}}, 0, conf(1, 2, 6), conf(2, 3, 4))
	canvasses(t, n)
	tells(t, "17.3: of a group of the other alone", n, asking(1, 2, 3, 3, 2))
	does(t, "the other would", n, would(2, 1, 3), voting(1, 2, 3, 3, 2))
	does(t, "the other votes", n, votes(2, 1, 3), appends(1, 2, 3, 3, 2, 1, none(3, 4)))
	if s := n.Status(); s.Role != api.Leader || s.Commit != 1 {
		t.Errorf("17.2: the match of one that is taken out counts: %+v", s)
	}
	does(t, "the other has it", n, has(2, 1, 3, 4))
	if s := n.Status(); s.Role != api.Follower || s.Lead != 0 || s.Commit != 4 || s.Hard != (api.Hard{Term: 3, Vote: 1}) {
		t.Errorf("17.2: that it is taken out is committed: %+v", s)
	}
}
