package core_test

import (
	"testing"

	"bursar/api"
)

// TestVote: 17.4, one vote in a term, for a log that is good; it may be asked for again.
func TestVote(t *testing.T) {
	n := made(t, 2, api.Hard{Term: 4}, none(3, 2), none(3, 3))
	ticks(n, 5)
	s := n.Status()
	does(t, "a shorter log", n, voting(1, 2, 4, 2, 3), votesNot(2, 1, 4))
	does(t, "a log of an earlier term", n, voting(3, 2, 4, 9, 2), votesNot(2, 3, 4))
	stands(t, "no vote yet", n, s, nil)
	o := does(t, "just as good a log", n, voting(1, 2, 4, 3, 3), votes(2, 1, 4))
	if o.Hard != (api.Hard{Term: 4, Vote: 1}) {
		t.Errorf("17.4: it keeps %v", o.Hard)
	}
	stands(t, "it has voted", n, s, func(s *api.Status) { s.Hard.Vote, s.Elapsed, s.Limit = 1, 0, 15 })
	ticks(n, 3)
	does(t, "another, with a better log", n, voting(3, 2, 4, 9, 4), votesNot(2, 3, 4))
	stands(t, "it has voted", n, s, func(s *api.Status) { s.Hard.Vote, s.Elapsed, s.Limit = 1, 3, 15 })
	does(t, "the same again, with a worse log", n, voting(1, 2, 4, 2, 3), votesNot(2, 1, 4))
	if e := n.Step(voting(1, 2, 4, 3, 3), 9); e != api.OK {
		t.Errorf("17.4: %d", e)
	}
	tells(t, "17.4: the same again", n, votes(2, 1, 4))
	stands(t, "it has voted again", n, s, func(s *api.Status) { s.Hard.Vote, s.Elapsed, s.Limit = 1, 0, 19 })
}

// TestVoteKept: 17.4, a node that begins anew remembers its vote.
func TestVoteKept(t *testing.T) {
	n := made(t, 2, api.Hard{Term: 4, Vote: 3})
	does(t, "another", n, voting(1, 2, 4, 9, 9), votesNot(2, 1, 4))
	does(t, "the one it voted for", n, voting(3, 2, 4, 9, 9), votes(2, 3, 4))
	does(t, "another, in the next term", n, voting(1, 2, 5, 9, 9), votes(2, 1, 5))
	n = made(t, 2, api.Hard{Term: 4, Vote: 2})
	does(t, "it voted for itself", n, voting(1, 2, 4, 9, 9), votesNot(2, 1, 4))
	n = made(t, 2, api.Hard{Term: 4, Vote: 7})
	does(t, "it voted for one that is not there", n, voting(1, 2, 4, 9, 9), votesNot(2, 1, 4))
}

// TestVoteOfLed: 17.4, who knows the leader of its term votes for nobody, but for the one
// it has voted for.
func TestVoteOfLed(t *testing.T) {
	p := led(t, 11)
	does(t, "it is led", p.n, voting(1, 2, 4, 9, 9), votesNot(2, 1, 4))
	does(t, "its leader asks", p.n, voting(3, 2, 4, 9, 9), votesNot(2, 3, 4))
	p = voter(t)
	does(t, "its leader", p.n, appends(1, 2, 4, 4, 3, 2), has(2, 1, 4, 4))
	does(t, "it voted for its leader", p.n, voting(1, 2, 4, 4, 3), votes(2, 1, 4))
	does(t, "another asks", p.n, voting(3, 2, 4, 9, 9), votesNot(2, 3, 4))
	if s := p.n.Status(); s.Lead != 1 || s.Hard != (api.Hard{Term: 4, Vote: 1}) {
		t.Errorf("17.4: %+v", s)
	}
}

// TestVoteOfGreaterTerm: 17.4, item 3: a vote is asked of a greater term: the node follows
// that term, whether it votes or not, unless it is led.
func TestVoteOfGreaterTerm(t *testing.T) {
	for _, name := range []string{"alone", "canvassing", "a candidate", "a voter", "led, heard 10 ticks ago", "led, heard 11 ticks ago", "nothing"} {
		p := roles()[name](t)
		s := p.n.Status()
		does(t, name+": a vote of a good log", p.n, voting(1, 2, 8, 9, 9), votes(2, 1, 8))
		stands(t, name+": a vote of a good log", p.n, s, func(s *api.Status) {
			s.Hard, s.Role, s.Lead, s.Elapsed, s.Limit = api.Hard{Term: 8, Vote: 1}, api.Follower, 0, 0, 15
		})
		p = roles()[name](t)
		if name != "nothing" {
			does(t, name+": a vote of a bad log", p.n, voting(1, 2, 8, 9, 2), votesNot(2, 1, 8))
			stands(t, name+": a vote of a bad log", p.n, s, func(s *api.Status) { s.Hard, s.Role, s.Lead = api.Hard{Term: 8}, api.Follower, 0 })
		}
	}
	for _, name := range []string{"led", "led, heard 9 ticks ago", "receiving", "a leader", "a leader with a snapshot"} {
		p := roles()[name](t)
		s := p.n.Status()
		does(t, name+": a vote of a greater term", p.n, voting(1, 2, 8, 9, 9))
		does(t, name+": a vote of the greatest term", p.n, voting(3, 2, mostNumber, 9, 9))
		stands(t, name+": a vote of a greater term", p.n, s, nil)
	}
}

// TestOwnVote: 17.4, who stands for election or leads does not vote for another.
func TestOwnVote(t *testing.T) {
	does(t, "a candidate", candidate(t).n, voting(1, 2, 5, 9, 9), votesNot(2, 1, 5))
	does(t, "a leader", leading(t).n, voting(1, 2, 5, 9, 9), votesNot(2, 1, 5))
	n := candidate(t).n
	does(t, "a candidate that canvasses again", n, voting(1, 2, 4, 9, 9), votesNot(2, 1, 5))
	canvasses(t, n)
	n.Take()
	does(t, "a candidate that canvasses again", n, voting(1, 2, 5, 9, 9), votesNot(2, 1, 5))
	does(t, "it goes on", n, would(1, 2, 6), voting(2, 1, 6, 4, 3), voting(2, 3, 6, 4, 3))
}

// TestVotes: 17.4, only a candidate counts votes, of its own term.
func TestVotes(t *testing.T) {
	n := candidate(t).n
	s := n.Status()
	does(t, "of an earlier term", n, votes(1, 2, 4))
	does(t, "refused", n, votesNot(1, 2, 5))
	does(t, "refused in an earlier term", n, votesNot(1, 2, 4))
	does(t, "no vote", n, would(1, 2, 5))
	stands(t, "what does not count", n, s, nil)
	o := does(t, "a vote", n, votes(1, 2, 5), appends(2, 1, 5, 4, 3, 2, none(5, 5)), appends(2, 3, 5, 4, 3, 2, none(5, 5)))
	keeps(t, "a vote", o, api.Snap{}, false, none(5, 5))
	stands(t, "a vote", n, s, func(s *api.Status) { s.Role, s.Lead, s.Last = api.Leader, 2, 5 })
	does(t, "another vote", n, votes(3, 2, 5))
	stands(t, "another vote", n, s, func(s *api.Status) { s.Role, s.Lead, s.Last = api.Leader, 2, 5 })
	for _, name := range []string{"alone", "led", "canvassing", "a voter", "receiving"} {
		p := roles()[name](t)
		s := p.n.Status()
		does(t, name+": a vote that it did not ask for", p.n, votes(1, 2, 4))
		does(t, name+": another", p.n, votes(3, 2, 4))
		stands(t, name+": votes that it did not ask for", p.n, s, nil)
		does(t, name+": a vote of a greater term", p.n, votes(3, 2, 6))
		if s := p.n.Status(); s.Hard != (api.Hard{Term: 6}) || s.Lead != 0 || s.Role != api.Follower || s.Receiving != 0 {
			t.Errorf("17.4: %s: a vote of a greater term: %+v", name, s)
		}
	}
}

// TestElapsedOfWinner: 17.2, who becomes leader begins with Elapsed 0, and knows nothing of
// what others have.
func TestElapsedOfWinner(t *testing.T) {
	p := candidate(t)
	for range 7 {
		p.n.Tick(0)
	}
	does(t, "a vote", p.n, votes(1, 2, 5), appends(2, 1, 5, 4, 3, 2, none(5, 5)), appends(2, 3, 5, 4, 3, 2, none(5, 5)))
	if s := p.n.Status(); s.Elapsed != 0 {
		t.Errorf("17.2: a new leader: %+v", s)
	}
	does(t, "both have it", p.n, has(1, 2, 5, 5))
	does(t, "both have it", p.n, has(3, 2, 5, 5))
	does(t, "a greater term", p.n, has(1, 2, 6, 5))
	leads(t, p.n)
	if s := p.n.Status(); s.Hard != (api.Hard{Term: 7, Vote: 2}) || s.Last != 6 || s.Commit != 5 {
		t.Errorf("17.2: it leads again: %+v", s)
	}
	does(t, "what it had in an earlier term", p.n, has(1, 2, 7, 5), appends(2, 1, 7, 5, 5, 5, none(7, 6)))
	ticks(p.n, 2)
	tells(t, "17.2: it leads again", p.n, appends(2, 1, 7, 5, 5, 5, none(7, 6)), appends(2, 3, 7, 5, 5, 5, none(7, 6)))
}
