package core_test

import (
	"testing"

	"bursar/api"
)

// TestLowerTerm: 17.4, item 4: who is behind is told the term, and nothing changes.
func TestLowerTerm(t *testing.T) {
	b := api.Base{Index: 9, Term: 2, Conf: 14}
	for name, of := range roles() {
		p := of(t)
		s := p.n.Status()
		own := s.Hard.Term
		for term := uint64(1); term < own; term++ {
			does(t, name+": a vote", p.n, voting(1, 2, term, 9, 9), votesNot(2, 1, own))
			does(t, name+": entries", p.n, appends(3, 2, term, 4, 3, 9), lacks(2, 3, own, 0))
			does(t, name+": entries at 0", p.n, appends(3, 2, term, 0, 0, 9), lacks(2, 3, own, 0))
			does(t, name+": a piece", p.n, piece(1, 2, term, b, 0, stuff(3), true), lacks(2, 1, own, 0))
			does(t, name+": a piece of what it has", p.n, piece(1, 2, term, base, 0, nil, true), lacks(2, 1, own, 0))
			does(t, name+": a vote's answer", p.n, votes(1, 2, term))
			does(t, name+": a vote's refusal", p.n, votesNot(1, 2, term))
			does(t, name+": an answer", p.n, has(3, 2, term, 4))
			does(t, name+": a refusal", p.n, lacks(3, 2, term, 1))
			does(t, name+": a piece's answer", p.n, wants(1, 2, term, s.Base, 0))
		}
		stands(t, name+": messages of lower terms", p.n, s, nil)
	}
}

// TestGreaterTerm: 17.4, item 3: of any other message of a greater term the node follows
// that term first, in any role.
func TestGreaterTerm(t *testing.T) {
	for name, of := range roles() {
		for what, m := range map[string]api.Msg{
			"an answer": has(1, 2, 9, 5), "a refusal": lacks(1, 2, 9, 1), "a vote": votes(1, 2, 9),
			"a vote's refusal": votesNot(1, 2, 9), "a piece's answer": wants(1, 2, 9, base, 0),
		} {
			p := of(t)
			s := p.n.Status()
			does(t, name+": "+what, p.n, m)
			stands(t, name+": "+what, p.n, s, func(s *api.Status) {
				s.Hard, s.Lead, s.Role, s.Receiving, s.Buffered = api.Hard{Term: 9}, 0, api.Follower, 0, 0
			})
		}
		p := of(t)
		s := p.n.Status()
		does(t, name+": entries", p.n, appends(1, 2, 9, 77, 8, 99), lacks(2, 1, 9, s.Last))
		stands(t, name+": entries", p.n, s, func(s *api.Status) {
			s.Hard, s.Lead, s.Role, s.Receiving, s.Buffered, s.Elapsed = api.Hard{Term: 9}, 1, api.Follower, 0, 0, 0
		})
	}
}

// TestAppend: 17.4, what a follower makes of entries at each place.
func TestAppend(t *testing.T) {
	for what, c := range map[string]struct {
		m      api.Msg
		want   api.Msg
		commit uint64
		log    []api.Entry
		put    int // how many of the log's last were put
	}{
		"nothing new":              {appends(1, 2, 4, 4, 3, 2), has(2, 1, 4, 4), 2, run(2, 1, 2, 3), 0},
		"one behind the last":      {appends(1, 2, 4, 4, 3, 2, none(4, 5)), has(2, 1, 4, 5), 2, run(2, 1, 2, 3, 4), 1},
		"the most at once":         {appends(1, 2, 4, 4, 3, 2, run(5, 3, 3, 4, 4)...), has(2, 1, 4, 8), 2, run(2, 1, 2, 3, 3, 3, 4, 4), 4},
		"just at Commit":           {appends(1, 2, 4, 2, 1, 2), has(2, 1, 4, 2), 2, run(2, 1, 2, 3), 0},
		"at Commit, what is there": {appends(1, 2, 4, 2, 1, 2, run(3, 2, 3)...), has(2, 1, 4, 4), 2, run(2, 1, 2, 3), 0},
		"at Commit, some of it":    {appends(1, 2, 4, 2, 1, 2, run(3, 2)...), has(2, 1, 4, 3), 2, run(2, 1, 2, 3), 0},
		"there, and more":          {appends(1, 2, 4, 2, 1, 2, run(3, 2, 3, 3)...), has(2, 1, 4, 5), 2, run(2, 1, 2, 3, 3), 1},
		"another last one":         {appends(1, 2, 4, 2, 1, 2, run(3, 2, 4)...), has(2, 1, 4, 4), 2, run(2, 1, 2, 4), 1},
		"all others":               {appends(1, 2, 4, 2, 1, 2, run(3, 4, 4)...), has(2, 1, 4, 4), 2, run(2, 1, 4, 4), 2},
		"another, and it ends":     {appends(1, 2, 4, 2, 1, 2, run(3, 3)...), has(2, 1, 4, 3), 2, run(2, 1, 3), 1},
		"below Commit":             {appends(1, 2, 4, 1, 1, 4), has(2, 1, 4, 2), 2, run(2, 1, 2, 3), 0},
		"below Commit, others":     {appends(1, 2, 4, 1, 1, 4, run(2, 3, 3)...), has(2, 1, 4, 2), 2, run(2, 1, 2, 3), 0},
		"below Commit, much more":  {appends(1, 2, 4, 1, 1, 4, run(2, 1, 2, 3, 3)...), has(2, 1, 4, 2), 2, run(2, 1, 2, 3), 0},
		"at 0":                     {appends(1, 2, 4, 0, 0, 4, run(1, 1, 1)...), has(2, 1, 4, 2), 2, run(2, 1, 2, 3), 0},
		"behind a gap":             {appends(1, 2, 4, 5, 3, 4, none(3, 6)), lacks(2, 1, 4, 4), 2, run(2, 1, 2, 3), 0},
		"behind a wide gap":        {appends(1, 2, 4, mostNumber, 3, 4), lacks(2, 1, 4, 4), 2, run(2, 1, 2, 3), 0},
		"behind another last one":  {appends(1, 2, 4, 4, 4, 4, none(4, 5)), lacks(2, 1, 4, 3), 2, run(2, 1, 2, 3), 0},
		"behind another":           {appends(1, 2, 4, 3, 3, 4, none(4, 4)), lacks(2, 1, 4, 2), 2, run(2, 1, 2, 3), 0},
		"behind another Commit":    {appends(1, 2, 4, 2, 2, 4, none(4, 3)), lacks(2, 1, 4, 1), 2, run(2, 1, 2, 3), 0},
		"more is committed":        {appends(1, 2, 4, 4, 3, 3), has(2, 1, 4, 4), 3, run(2, 1, 2, 3), 0},
		"all is committed":         {appends(1, 2, 4, 4, 3, 4), has(2, 1, 4, 4), 4, run(2, 1, 2, 3), 0},
		"more than there is":       {appends(1, 2, 4, 4, 3, 99), has(2, 1, 4, 4), 4, run(2, 1, 2, 3), 0},
		"up to what is told":       {appends(1, 2, 4, 3, 2, 99), has(2, 1, 4, 3), 3, run(2, 1, 2, 3), 0},
		"up to what comes":         {appends(1, 2, 4, 2, 1, 99, run(3, 2)...), has(2, 1, 4, 3), 3, run(2, 1, 2, 3), 0},
		"less than what comes":     {appends(1, 2, 4, 4, 3, 5, run(5, 3, 4)...), has(2, 1, 4, 6), 5, run(2, 1, 2, 3, 3, 4), 2},
		"just what comes":          {appends(1, 2, 4, 4, 3, 6, run(5, 3, 4)...), has(2, 1, 4, 6), 6, run(2, 1, 2, 3, 3, 4), 2},
		"less than it knows":       {appends(1, 2, 4, 4, 3, 0), has(2, 1, 4, 4), 2, run(2, 1, 2, 3), 0},
		"less, with one more":      {appends(1, 2, 4, 4, 3, 1, none(4, 5)), has(2, 1, 4, 5), 2, run(2, 1, 2, 3, 4), 1},
		"refused, with a Commit":   {appends(1, 2, 4, 9, 3, 4), lacks(2, 1, 4, 4), 2, run(2, 1, 2, 3), 0},
	} {
		for _, role := range []string{"alone", "led", "led, heard 11 ticks ago", "canvassing", "a voter", "receiving"} {
			n := roles()[role](t).n
			s := n.Status()
			o := does(t, role+": "+what, n, c.m, c.want)
			logged(t, role+": "+what, n, c.log...)
			keeps(t, role+": "+what, o, api.Snap{}, false, c.log[len(c.log)-c.put:]...)
			stands(t, role+": "+what, n, s, func(s *api.Status) {
				s.Lead, s.Elapsed, s.Commit, s.Last = 1, 0, c.commit, 1+uint64(len(c.log))
			})
		}
	}
}

// TestAppendToNothing: 17.4, a node without a snapshot: entries at 0.
func TestAppendToNothing(t *testing.T) {
	n := begun(t, config(3), 2, api.Hard{}, api.Snap{}, 0)
	does(t, "at 0, but of a term", n, appends(1, 2, 3, 0, 1, 9, none(3, 1)), lacks(2, 1, 3, 0))
	does(t, "at 1", n, appends(1, 2, 3, 1, 1, 9, none(3, 2)), lacks(2, 1, 3, 0))
	does(t, "at 9", n, appends(1, 2, 3, 9, 1, 9, none(3, 10)), lacks(2, 1, 3, 0))
	does(t, "at 0, none", n, appends(1, 2, 3, 0, 0, 9), has(2, 1, 3, 0))
	o := does(t, "at 0", n, appends(1, 2, 3, 0, 0, 1, conf(1, 1, 14), command(3, 2, "x")), has(2, 1, 3, 2))
	keeps(t, "at 0", o, api.Snap{}, false, conf(1, 1, 14), command(3, 2, "x"))
	if s := n.Status(); s.Commit != 1 || s.Conf != 14 || s.ConfIndex != 1 || s.Last != 2 || s.Hard != (api.Hard{Term: 3}) {
		t.Errorf("17.4: %+v", s)
	}
}

// TestAppendToCandidate: 17.4, entries of its term end what a candidate stands for; a
// leader passes over them.
func TestAppendToCandidate(t *testing.T) {
	n := candidate(t).n
	s := n.Status()
	n.Tick(0)
	does(t, "entries of its term", n, appends(1, 2, 5, 4, 3, 2, none(5, 5)), has(2, 1, 5, 5))
	stands(t, "entries of its term", n, s, func(s *api.Status) { s.Role, s.Lead, s.Last = api.Follower, 1, 5 })
	does(t, "votes come late", n, votes(1, 2, 5))
	does(t, "votes come late", n, votes(3, 2, 5))
	stands(t, "votes come late", n, s, func(s *api.Status) { s.Role, s.Lead, s.Last = api.Follower, 1, 5 })
	n = leading(t).n
	s = n.Status()
	n.Take()
	does(t, "entries of its term, to a leader", n, appends(1, 2, 5, 4, 3, 5, none(5, 5), none(5, 6)))
	does(t, "a heartbeat of its term, to a leader", n, appends(1, 2, 5, 1, 1, 5))
	does(t, "a piece of its term, to a leader", n, piece(1, 2, 5, api.Base{Index: 9, Term: 5, Conf: 14}, 0, stuff(3), true))
	stands(t, "entries of its term, to a leader", n, s, nil)
}

// TestConfPut: 17.1, a configuration holds as soon as it is put, and no more when it is cut
// away again.
func TestConfPut(t *testing.T) {
	n := made(t, 2, api.Hard{Term: 2})
	does(t, "a configuration", n, appends(1, 2, 2, 1, 1, 1, none(2, 2), conf(2, 3, 6), none(2, 4)), has(2, 1, 2, 4))
	if s := n.Status(); s.Conf != 6 || s.ConfIndex != 3 || n.ConfAt(2) != 14 || n.ConfAt(3) != 6 || n.ConfAt(99) != 6 {
		t.Errorf("17.1: %+v", s)
	}
	o := does(t, "cut away", n, appends(3, 2, 3, 2, 2, 1, none(3, 3)), has(2, 3, 3, 3))
	keeps(t, "cut away", o, api.Snap{}, false, none(3, 3))
	if s := n.Status(); s.Conf != 14 || s.ConfIndex != 1 || s.Last != 3 {
		t.Errorf("17.1: %+v", s)
	}
}
