package core_test

import (
	"maps"
	"slices"
	"testing"

	"bursar/api"
)

// alone answers a follower of term 4 that knows of no leader, node 2 of three, with the
// entries 2 to 4 behind the chapter's base, of which 2 is committed.
func alone(t *testing.T) pair {
	t.Helper()
	p := paired(t, start{config(3), 2, api.Hard{Term: 3}, snap(), run(2, 1, 2, 3), 3})
	p.step(t, appends(3, 2, 3, 2, 1, 2), 0)
	p.step(t, lacks(1, 2, 3, 0), 0)
	p.step(t, wouldNot(1, 2, 4), 0)
	p.take(t, "alone")
	if s := p.n.Status(); s.Hard != (api.Hard{Term: 4}) || s.Lead != 0 || s.Commit != 2 || s.Role != api.Follower {
		t.Fatalf("17.4: alone: %+v", s)
	}
	return p
}

// led answers such a follower that has a leader, which it heard so many ticks ago.
func led(t *testing.T, elapsed int) pair {
	t.Helper()
	p := alone(t)
	p.step(t, appends(3, 2, 4, 4, 3, 2), 0)
	for range elapsed {
		p.tick(0)
	}
	p.take(t, "led")
	if s := p.n.Status(); s.Lead != 3 || s.Elapsed != elapsed || s.Hard != (api.Hard{Term: 4}) {
		t.Fatalf("17.4: led: %+v", s)
	}
	return p
}

// asks answers such a node that canvasses.
func asks(t *testing.T) pair {
	t.Helper()
	p := alone(t)
	for p.m.elapsed < p.m.limit-1 {
		p.tick(0)
	}
	p.tick(3)
	p.take(t, "canvassing")
	if s := p.n.Status(); s.Elapsed != 0 || s.Role != api.Follower || s.Hard != (api.Hard{Term: 4}) {
		t.Fatalf("17.3: canvassing: %+v", s)
	}
	return p
}

// candidate answers such a node that stands for election in term 5.
func candidate(t *testing.T) pair {
	t.Helper()
	p := asks(t)
	p.step(t, would(3, 2, 5), 0)
	p.take(t, "a candidate")
	if s := p.n.Status(); s.Role != api.Candidate || s.Hard != (api.Hard{Term: 5, Vote: 2}) {
		t.Fatalf("17.3: a candidate: %+v", s)
	}
	return p
}

// leading answers such a node that leads term 5; its entry is 5.
func leading(t *testing.T) pair {
	t.Helper()
	p := candidate(t)
	p.step(t, votes(3, 2, 5), 0)
	p.take(t, "a leader")
	if s := p.n.Status(); s.Role != api.Leader || s.Last != 5 || s.Commit != 2 {
		t.Fatalf("17.2: a leader: %+v", s)
	}
	return p
}

// voter answers such a follower that has voted for node 1 in its term.
func voter(t *testing.T) pair {
	t.Helper()
	p := alone(t)
	p.step(t, voting(1, 2, 4, 9, 9), 7)
	p.take(t, "a voter")
	if s := p.n.Status(); s.Hard != (api.Hard{Term: 4, Vote: 1}) {
		t.Fatalf("17.4: a voter: %+v", s)
	}
	return p
}

// receiving answers a follower that has some of a snapshot.
func receiving(t *testing.T) pair {
	t.Helper()
	p := led(t, 1)
	p.step(t, piece(3, 2, 4, api.Base{Index: 9, Term: 4, Conf: 14}, 0, stuff(7), false), 0)
	p.take(t, "receiving")
	if s := p.n.Status(); s.Receiving != 1 || s.Buffered != 7 {
		t.Fatalf("17.4: receiving: %+v", s)
	}
	return p
}

// shortened answers a leader whose log begins behind what others have.
func shortened(t *testing.T) pair {
	t.Helper()
	p := leading(t)
	p.step(t, has(1, 2, 5, 5), 0)
	p.compact(t, api.Snap{Base: api.Base{Index: 4, Term: 3, Conf: 14}, Data: stuff(600)})
	p.step(t, lacks(3, 2, 5, 1), 0)
	p.take(t, "a leader with a snapshot")
	return p
}

// roles are all the ways in which a node may stand.
func roles() map[string]func(t *testing.T) pair {
	return map[string]func(t *testing.T) pair{
		"alone":                    alone,
		"led":                      func(t *testing.T) pair { return led(t, 0) },
		"led, heard 9 ticks ago":   func(t *testing.T) pair { return led(t, 9) },
		"led, heard 10 ticks ago":  func(t *testing.T) pair { return led(t, 10) },
		"led, heard 11 ticks ago":  func(t *testing.T) pair { return led(t, 11) },
		"canvassing":               asks,
		"a candidate":              candidate,
		"a leader":                 leading,
		"a voter":                  voter,
		"receiving":                receiving,
		"a leader with a snapshot": shortened,
		"nothing": func(t *testing.T) pair {
			return paired(t, start{config(3), 2, api.Hard{}, api.Snap{}, nil, 3})
		},
	}
}

// around are terms around one.
func around(term uint64) []uint64 {
	some := []uint64{term, term + 1, term + 2, term + 9}
	for k := range min(2, term) {
		some = append(some, term-k-1)
	}
	return some
}

// allOf calls f with messages of a term that mean something to a node.
func allOf(m *model, from int, term uint64, f func(x api.Msg)) {
	own, _ := m.term(m.last())
	for _, flags := range []int{0, 1, 2, 3} {
		refused, last := flags&1 == 1, flags&2 == 2
		for index := m.base.Index; index <= m.last()+1; index++ {
			if !refused {
				for logTerm := own - min(own, 1); logTerm <= own+1; logTerm++ {
					f(api.Msg{Kind: 1, From: from, To: m.id, Term: term, Index: index, LogTerm: logTerm, Last: last})
				}
			}
			if !last {
				f(api.Msg{Kind: 4, From: from, To: m.id, Term: term, Index: index, Refused: refused})
			}
		}
		f(api.Msg{Kind: 2, From: from, To: m.id, Term: term, Refused: refused, Last: last})
	}
	for index := m.base.Index; index <= m.last()+1; index++ {
		at, ok := m.term(index)
		for _, some := range [][]api.Entry{nil, run(index+1, max(at, 1)), run(index+1, max(at, 1), max(at, 1), term), run(index+1, term, term, term, term)} {
			f(appends(from, m.id, term, index, at, m.last()+9, some...))
			f(appends(from, m.id, term, index, at, index+1, some...))
			f(appends(from, m.id, term, index, at+1, index, some...))
		}
		if ok {
			f(appends(from, m.id, term, index, at, 0, m.row[index-m.base.Index:min(m.last(), index+4)-m.base.Index]...))
		}
		for _, b := range []api.Base{{Index: index, Term: max(1, at), Conf: 14}, {Index: index, Term: at + 1, Conf: 6}, m.base, m.taking} {
			for _, offset := range []int{0, 1, len(m.taken), len(m.image), len(m.image) + 1} {
				f(wants(from, m.id, term, b, offset))
				f(piece(from, m.id, term, b, offset, stuff(9), false))
				f(piece(from, m.id, term, b, offset, stuff(9), true))
				f(piece(from, m.id, term, b, offset, nil, true))
			}
		}
	}
}

// TestRoles: 17.4, each kind of message in each role, with terms that are lower, the same
// and greater; and what the node does next.
func TestRoles(t *testing.T) {
	tried := 0
	for _, name := range slices.Sorted(maps.Keys(roles())) {
		like := roles()[name](t)
		for _, from := range []int{1, 3} {
			for _, term := range around(like.m.hard.Term) {
				allOf(like.m, from, term, func(x api.Msg) {
					tried++
					p := roles()[name](t)
					p.step(t, x, 4)
					agree(t, name+", behind "+short(x), p.n, p.m)
					p.take(t, name+", behind "+short(x))
					goesOn(t, name+", behind "+short(x), p)
				})
			}
		}
	}
	if tried < 10000 {
		t.Errorf("only %d were tried", tried)
	}
}

// goesOn fails where a node does not go on as its model: it canvasses, runs, leads.
func goesOn(t *testing.T, what string, p pair) {
	t.Helper()
	p.step(t, would(1, 2, p.m.hard.Term+1), 3)
	p.step(t, votes(3, 2, max(1, p.m.hard.Term)), 3)
	for range 2 {
		p.tick(2)
	}
	agree(t, what+", and then", p.n, p.m)
	p.take(t, what+", and then")
}

// TestSecondOfTwo: 17.4, where two of the items would do, the first does.
func TestSecondOfTwo(t *testing.T) {
	p := candidate(t)
	p.step(t, asking(1, 2, 9, 9, 9), 0)
	p.take(t, "a question of a greater term is no vote of one")
	p.step(t, would(1, 2, 9), 0)
	p.take(t, "an answer of a greater term to a question")
	p.step(t, would(1, 2, 4), 0)
	p.step(t, asking(1, 2, 4, 9, 9), 0)
	p.take(t, "questions of a lower term")
	stands(t, "questions of other terms", p.n, p.n.Status(), func(s *api.Status) { s.Hard, s.Role = api.Hard{Term: 5, Vote: 2}, api.Candidate })
	agree(t, "questions of other terms", p.n, p.m)
}

// TestWrongMessages: 17.4, a message that may not be, is for another, or from one that is
// not there changes nothing.
func TestWrongMessages(t *testing.T) {
	b := api.Base{Index: 9, Term: 4, Conf: 14}
	for name, of := range roles() {
		p := of(t)
		term := max(1, p.m.hard.Term)
		good := []api.Msg{
			voting(1, 2, term+1, 9, 9), asking(1, 2, term+1, 9, 9), votes(1, 2, term), would(1, 2, term+1), wouldNot(1, 2, term+9),
			appends(1, 2, term, p.m.last(), p.m.hard.Term, 9), appends(1, 2, term+1, 1, 1, 9), has(1, 2, term, 5), lacks(1, 2, term+2, 2),
			piece(1, 2, term, b, 0, stuff(4), true), wants(1, 2, term, p.m.base, 0),
		}
		for _, x := range good {
			for what, spoil := range wrongs() {
				y := x
				if spoil(&y); sameMsg(x, y) {
					continue
				}
				if e := p.n.Step(y, 4); e != api.ErrArg {
					t.Errorf("17.4: %s: %s of %s: %d", name, what, short(y), e)
				}
			}
		}
		agree(t, name+", behind wrong messages", p.n, p.m)
		p.take(t, name+", behind wrong messages")
	}
}

// wrongs are ways to spoil any message.
func wrongs() map[string]func(x *api.Msg) {
	return map[string]func(x *api.Msg){
		"no kind":           func(x *api.Msg) { x.Kind = 0 },
		"kind 7":            func(x *api.Msg) { x.Kind = 7 },
		"kind -1":           func(x *api.Msg) { x.Kind = -1 },
		"for 1":             func(x *api.Msg) { x.To = 1 },
		"for 3":             func(x *api.Msg) { x.To = 3 },
		"for nobody":        func(x *api.Msg) { x.To = 0 },
		"from itself":       func(x *api.Msg) { x.From = 2 },
		"from 4 of 3":       func(x *api.Msg) { x.From = 4 },
		"from 7 of 3":       func(x *api.Msg) { x.From = 7 },
		"from 8":            func(x *api.Msg) { x.From = 8 },
		"from nobody":       func(x *api.Msg) { x.From = 0 },
		"from -1":           func(x *api.Msg) { x.From = -1 },
		"no Term":           func(x *api.Msg) { x.Term = 0 },
		"Term 2^56":         func(x *api.Msg) { x.Term = mostNumber + 1 },
		"Index 2^56":        func(x *api.Msg) { x.Index = mostNumber + 1 },
		"LogTerm 2^56":      func(x *api.Msg) { x.LogTerm = mostNumber + 1 },
		"Commit 2^56":       func(x *api.Msg) { x.Commit = mostNumber + 1 },
		"Offset -1":         func(x *api.Msg) { x.Offset = -1 },
		"Offset 2^15+1":     func(x *api.Msg) { x.Offset = mostImage + 1 },
		"257 bytes":         func(x *api.Msg) { x.Data = stuff(mostPiece + 1) },
		"a base of no Term": func(x *api.Msg) { x.Base = api.Base{Index: 9, Conf: 14} },
		"a base of no Conf": func(x *api.Msg) { x.Base = api.Base{Index: 9, Term: 1} },
		"a gap":             func(x *api.Msg) { x.Entries = run(x.Index+2, x.Term) },
		"a term above its":  func(x *api.Msg) { x.Entries = run(x.Index+1, x.Term+1) },
		"five entries":      func(x *api.Msg) { x.Entries = run(x.Index+1, x.Term, x.Term, x.Term, x.Term, x.Term) },
	}
}

// TestSomeOfSeven: 17.4, a node above Nodes is not heard, though it is a member.
func TestSomeOfSeven(t *testing.T) {
	n := begun(t, config(3), 1, api.Hard{Term: 1}, api.Snap{Base: api.Base{Index: 1, Term: 1, Conf: 254}}, 0)
	canvasses(t, n)
	var want []api.Msg
	for p := 2; p <= 7; p++ {
		want = append(want, asking(1, p, 2, 1, 1))
	}
	tells(t, "17.3: to members above Nodes", n, want...)
	for p := 4; p <= 7; p++ {
		if e := n.Step(would(p, 1, 2), 0); e != api.ErrArg {
			t.Errorf("17.4: from %d of 3: %d", p, e)
		}
	}
	does(t, "two of seven", n, would(2, 1, 2))
	does(t, "three of seven", n, would(3, 1, 2))
	if s := n.Status(); s.Role != api.Follower || s.Hard.Term != 1 {
		t.Errorf("17.4: three of seven: %+v", s)
	}
}
