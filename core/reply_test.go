package core_test

import (
	"testing"

	"bursar/api"
)

// longer makes the leader of term 2 one that has the commands 3 to 8 too; of what the
// others have it knows only that 3 has 2.
func longer(t *testing.T) pair {
	t.Helper()
	p := paired(t, start{config(3), 1, api.Hard{Term: 1}, snap(), nil, 0})
	for range 10 {
		p.tick(0)
	}
	p.step(t, would(3, 1, 2), 0)
	p.step(t, votes(3, 1, 2), 0)
	p.step(t, has(3, 1, 2, 2), 0)
	for _, data := range []string{"c", "d", "e", "f", "g", "h"} {
		p.propose(t, []byte(data))
	}
	p.take(t, "a leader with more")
	if s := p.n.Status(); s.Role != api.Leader || s.Last != 8 || s.Commit != 2 {
		t.Fatalf("17.5: %+v", s)
	}
	return p
}

// part answers some of that leader's entries.
func part(from, to uint64) []api.Entry {
	some := []api.Entry{none(2, 2)}
	for i, data := range []string{"c", "d", "e", "f", "g", "h"} {
		some = append(some, command(2, uint64(i)+3, data))
	}
	return some[from-2 : to-1]
}

// TestMatched: 17.4, a node has more than the leader knew: the leader counts, and sends
// what comes next, until it has all.
func TestMatched(t *testing.T) {
	n := longer(t).n
	does(t, "2 has nothing yet", n, has(2, 1, 2, 1), appends(1, 2, 2, 1, 1, 2, part(2, 5)...))
	does(t, "2 has 5", n, has(2, 1, 2, 5), appends(1, 2, 2, 5, 2, 5, part(6, 8)...))
	stands(t, "2 has 5", n, n.Status(), func(s *api.Status) { s.Commit, s.Last = 5, 8 })
	does(t, "3 has 4", n, has(3, 1, 2, 4), appends(1, 3, 2, 4, 2, 5, part(5, 8)...))
	does(t, "3 has 7", n, has(3, 1, 2, 7), appends(1, 3, 2, 7, 2, 7, part(8, 8)...))
	does(t, "3 has 8", n, has(3, 1, 2, 8))
	stands(t, "3 has 8", n, n.Status(), func(s *api.Status) { s.Commit, s.Role, s.Lead = 8, api.Leader, 1 })
	does(t, "2 has 8", n, has(2, 1, 2, 8))
	ticks(n, 2)
	tells(t, "17.3: all have all", n, appends(1, 2, 2, 8, 2, 8), appends(1, 3, 2, 8, 2, 8))
}

// TestMatchedAgain: 17.4, answers at or below what is known, or above Last, are nothing.
func TestMatchedAgain(t *testing.T) {
	n := longer(t).n
	does(t, "2 has 5", n, has(2, 1, 2, 5), appends(1, 2, 2, 5, 2, 5, part(6, 8)...))
	s := n.Status()
	for _, index := range []uint64{5, 4, 1, 0, 9, 10, mostNumber} {
		does(t, "nothing new, or too much", n, has(2, 1, 2, index))
	}
	for _, index := range []uint64{9, 10, mostNumber} {
		does(t, "a refusal above Last", n, lacks(2, 1, 2, index))
	}
	stands(t, "nothing new, or too much", n, s, nil)
	ticks(n, 2)
	tells(t, "17.3: nothing new, or too much", n, appends(1, 2, 2, 5, 2, 5, part(6, 8)...), appends(1, 3, 2, 2, 2, 5, part(3, 6)...))
}

// TestRefused: 17.4, a node lacks what is before: the leader goes back to where it says,
// but not behind what it knows that it has.
func TestRefused(t *testing.T) {
	n := longer(t).n
	does(t, "2 lacks all", n, lacks(2, 1, 2, 1), appends(1, 2, 2, 1, 1, 2, part(2, 5)...))
	does(t, "2 lacks all behind 3", n, lacks(2, 1, 2, 3), appends(1, 2, 2, 3, 2, 2, part(4, 7)...))
	does(t, "2 lacks what is behind the last", n, lacks(2, 1, 2, 8), appends(1, 2, 2, 8, 2, 2))
	ticks(n, 2)
	tells(t, "17.3: where it goes on", n, appends(1, 2, 2, 8, 2, 2), appends(1, 3, 2, 2, 2, 2, part(3, 6)...))
	does(t, "2 has 4", n, has(2, 1, 2, 4), appends(1, 2, 2, 8, 2, 4))
	does(t, "2 lacks less than it has", n, lacks(2, 1, 2, 3), appends(1, 2, 2, 4, 2, 4, part(5, 8)...))
	does(t, "2 lacks what it has", n, lacks(2, 1, 2, 4), appends(1, 2, 2, 4, 2, 4, part(5, 8)...))
	does(t, "2 lacks nothing that is", n, lacks(2, 1, 2, 0), appends(1, 2, 2, 4, 2, 4, part(5, 8)...))
	does(t, "2 lacks more than it has", n, lacks(2, 1, 2, 6), appends(1, 2, 2, 6, 2, 4, part(7, 8)...))
	does(t, "2 has 5", n, has(2, 1, 2, 5), appends(1, 2, 2, 6, 2, 5, part(7, 8)...))
}

// TestRefusedToSnap: 17.4, a leader goes back to its snapshot, where its log begins too late.
func TestRefusedToSnap(t *testing.T) {
	n := longer(t).n
	does(t, "3 has 6", n, has(3, 1, 2, 6), appends(1, 3, 2, 6, 2, 6, part(7, 8)...))
	x := api.Snap{Base: api.Base{Index: 4, Term: 2, Conf: 14}, Data: stuff(600)}
	if e := n.Compact(x); e != api.OK {
		t.Fatalf("17.6: Compact: %d", e)
	}
	does(t, "2 lacks what is behind 5", n, lacks(2, 1, 2, 5), appends(1, 2, 2, 5, 2, 6, part(6, 8)...))
	does(t, "2 lacks what is behind 4", n, lacks(2, 1, 2, 4), appends(1, 2, 2, 4, 2, 6, part(5, 8)...))
	does(t, "2 lacks 4", n, lacks(2, 1, 2, 3), piece(1, 2, 2, x.Base, 0, x.Data[:256], false))
	does(t, "2 lacks all", n, lacks(2, 1, 2, 0), piece(1, 2, 2, x.Base, 0, x.Data[:256], false))
	does(t, "2 has some of it", n, wants(2, 1, 2, x.Base, 256), piece(1, 2, 2, x.Base, 256, x.Data[256:512], false))
	does(t, "2 has less than it had", n, wants(2, 1, 2, x.Base, 5), piece(1, 2, 2, x.Base, 5, x.Data[5:261], false))
	ticks(n, 2)
	tells(t, "17.3: where it goes on", n, piece(1, 2, 2, x.Base, 5, x.Data[5:261], false), appends(1, 3, 2, 6, 2, 6, part(7, 8)...))
	does(t, "2 has the snapshot", n, has(2, 1, 2, 4), appends(1, 2, 2, 4, 2, 6, part(5, 8)...))
	does(t, "2 lacks 4 again", n, lacks(2, 1, 2, 3), appends(1, 2, 2, 4, 2, 6, part(5, 8)...))
	does(t, "a piece's answer comes late", n, wants(2, 1, 2, x.Base, 256))
}

// TestOffsetAnew: 17.4, who gets on has its offset 0 again, who goes back has not.
func TestOffsetAnew(t *testing.T) {
	n := longer(t).n
	does(t, "3 has 8", n, has(3, 1, 2, 8))
	x := api.Snap{Base: api.Base{Index: 4, Term: 2, Conf: 14}, Data: stuff(600)}
	if e := n.Compact(x); e != api.OK {
		t.Fatalf("17.6: Compact: %d", e)
	}
	does(t, "2 lacks 4", n, lacks(2, 1, 2, 1), piece(1, 2, 2, x.Base, 0, x.Data[:256], false))
	does(t, "2 has some of it", n, wants(2, 1, 2, x.Base, 256), piece(1, 2, 2, x.Base, 256, x.Data[256:512], false))
	does(t, "2 lacks 4 again", n, lacks(2, 1, 2, 1), piece(1, 2, 2, x.Base, 256, x.Data[256:512], false))
	does(t, "2 has 2", n, has(2, 1, 2, 2), piece(1, 2, 2, x.Base, 0, x.Data[:256], false))
	does(t, "2 has some of it", n, wants(2, 1, 2, x.Base, 600), piece(1, 2, 2, x.Base, 600, nil, true))
	does(t, "2 has 5", n, has(2, 1, 2, 5), appends(1, 2, 2, 5, 2, 8, part(6, 8)...))
	x = api.Snap{Base: api.Base{Index: 7, Term: 2, Conf: 14}, Data: stuff(700)}
	if e := n.Compact(x); e != api.OK {
		t.Fatalf("17.6: Compact: %d", e)
	}
	ticks(n, 2)
	tells(t, "17.3: behind another snapshot", n, piece(1, 2, 2, x.Base, 0, x.Data[:256], false), appends(1, 3, 2, 8, 2, 8))
}

// TestOffsetOfNextTerm: 17.2, who leads again begins each snapshot anew.
func TestOffsetOfNextTerm(t *testing.T) {
	n := shortened(t).n
	b := api.Base{Index: 4, Term: 3, Conf: 14}
	does(t, "3 has some of it", n, wants(3, 2, 5, b, 256), piece(2, 3, 5, b, 256, stuff(600)[256:512], false))
	does(t, "a greater term", n, wouldNot(3, 2, 6))
	leads(t, n)
	does(t, "an answer of the term before", n, wants(3, 2, 5, b, 256))
	does(t, "an answer, though nothing was sent", n, wants(3, 2, 7, b, 256))
	does(t, "3 lacks all", n, lacks(3, 2, 7, 1), piece(2, 3, 7, b, 0, stuff(600)[:256], false))
}

// TestSnapReply: 17.4, which answers to a piece are taken.
func TestSnapReply(t *testing.T) {
	p := shortened(t)
	b := api.Base{Index: 4, Term: 3, Conf: 14}
	s := p.n.Status()
	for what, m := range map[string]api.Msg{
		"of one that has all":        wants(1, 2, 5, b, 0),
		"of another Index":           wants(3, 2, 5, api.Base{Index: 3, Term: 3, Conf: 14}, 0),
		"of a greater Index":         wants(3, 2, 5, api.Base{Index: 5, Term: 3, Conf: 14}, 0),
		"of another Term":            wants(3, 2, 5, api.Base{Index: 4, Term: 2, Conf: 14}, 0),
		"of another Conf":            wants(3, 2, 5, api.Base{Index: 4, Term: 3, Conf: 6}, 0),
		"above the data":             wants(3, 2, 5, b, 601),
		"far above the data":         wants(3, 2, 5, b, mostImage),
		"of the base before":         wants(3, 2, 5, base, 0),
		"of a lower term":            wants(3, 2, 4, b, 0),
		"of one that has all, above": wants(1, 2, 5, b, 601),
	} {
		does(t, "an answer to a piece "+what, p.n, m)
		stands(t, "an answer to a piece "+what, p.n, s, nil)
	}
	does(t, "at the end of the data", p.n, wants(3, 2, 5, b, 600), piece(2, 3, 5, b, 600, nil, true))
	does(t, "the last piece", p.n, wants(3, 2, 5, b, 344), piece(2, 3, 5, b, 344, stuff(600)[344:], true))
	does(t, "nearly the last piece", p.n, wants(3, 2, 5, b, 343), piece(2, 3, 5, b, 343, stuff(600)[343:599], false))
	does(t, "the first piece", p.n, wants(3, 2, 5, b, 0), piece(2, 3, 5, b, 0, stuff(600)[:256], false))
	does(t, "in the midst of it", p.n, wants(3, 2, 5, b, 100), piece(2, 3, 5, b, 100, stuff(600)[100:356], false))
	does(t, "what does not count changes no offset", p.n, wants(3, 2, 5, b, 601))
	ticks(p.n, 2)
	tells(t, "17.3: in the midst of it", p.n, appends(2, 1, 5, 5, 5, 5), piece(2, 3, 5, b, 100, stuff(600)[100:356], false))
}

// TestOwnTerm: 17.2, a leader commits no entry of an earlier term by itself, and all of them
// with one of its own.
func TestOwnTerm(t *testing.T) {
	p := leading(t)
	does(t, "1 has an entry of an earlier term", p.n, has(1, 2, 5, 4), appends(2, 1, 5, 4, 3, 2, none(5, 5)))
	does(t, "3 has it too", p.n, has(3, 2, 5, 4), appends(2, 3, 5, 4, 3, 2, none(5, 5)))
	stands(t, "all have an entry of an earlier term", p.n, p.n.Status(), func(s *api.Status) { s.Commit = 2 })
	if at, e := p.n.Change(false, 1); at != 0 || e != api.ErrBusy {
		t.Errorf("17.5: Change, with nothing committed of its term: %d %d", at, e)
	}
	does(t, "1 has one of its term", p.n, has(1, 2, 5, 5))
	stands(t, "1 has one of its term", p.n, p.n.Status(), func(s *api.Status) { s.Commit = 5 })
}

// TestCountOfMany: 17.2, what more than half have is committed, in groups of many sizes.
func TestCountOfMany(t *testing.T) {
	for _, c := range []struct {
		set  int
		have []uint64 // of the nodes from 2 on
		want uint64
	}{
		{6, []uint64{5}, 5}, {6, []uint64{4}, 4}, {6, []uint64{1}, 1},
		{14, []uint64{0, 4}, 4}, {14, []uint64{3, 2}, 3}, {14, []uint64{0, 0}, 1},
		{30, []uint64{5, 0, 0}, 1}, {30, []uint64{5, 3, 0}, 3}, {30, []uint64{5, 3, 4}, 4}, {30, []uint64{5, 5, 2}, 5},
		{62, []uint64{5, 0, 0, 0}, 1}, {62, []uint64{2, 0, 5, 0}, 2}, {62, []uint64{2, 3, 4, 5}, 4},
		{254, []uint64{5, 5, 0, 0, 0, 0}, 1}, {254, []uint64{5, 4, 3, 0, 0, 0}, 3}, {254, []uint64{2, 3, 4, 4, 5, 5}, 4},
		{2 + 8, []uint64{5, 0}, 1}, {2 + 8, []uint64{5, 3}, 3}, {2 + 8 + 32, []uint64{5, 0, 5, 4}, 4},
	} {
		n := leads(t, begun(t, config(7), 1, api.Hard{Term: 1}, api.Snap{Base: api.Base{Index: 1, Term: 1, Conf: c.set}}, 0))
		proposes(t, n, "c", "d", "e")
		for k, index := range c.have {
			if index > 0 {
				n.Step(has(k+2, 1, 2, index), 0)
			}
		}
		if s := n.Status(); s.Commit != c.want || s.Role != api.Leader {
			t.Errorf("17.2: the members %d, that have %v: %+v", c.set, c.have, s)
		}
	}
}

// TestAnswersToOthers: 17.4, only a leader takes answers to what it sent.
func TestAnswersToOthers(t *testing.T) {
	for name, of := range roles() {
		p := of(t)
		s := p.n.Status()
		if s.Role == api.Leader || s.Hard.Term == 0 {
			continue
		}
		does(t, name+": an answer", p.n, has(1, 2, s.Hard.Term, s.Last))
		does(t, name+": another", p.n, has(3, 2, s.Hard.Term, s.Last))
		does(t, name+": a refusal", p.n, lacks(1, 2, s.Hard.Term, 1))
		does(t, name+": an answer to a piece", p.n, wants(3, 2, s.Hard.Term, s.Base, 0))
		stands(t, name+": answers to what it did not send", p.n, s, nil)
	}
}

// TestStranger: 17.4, one that is no member may answer, and is sent what it lacks; what it
// has does not count.
func TestStranger(t *testing.T) {
	n := leads(t, begun(t, config(4), 1, api.Hard{Term: 1}, snap(), 0))
	does(t, "one that is no member has it", n, has(4, 1, 2, 2))
	if s := n.Status(); s.Commit != 1 {
		t.Errorf("17.2: what no member has: %+v", s)
	}
	does(t, "one that is no member lacks it", n, lacks(4, 1, 2, 1), appends(1, 4, 2, 2, 2, 1))
	proposes(t, n, "x")
	does(t, "one that is no member lacks more", n, lacks(4, 1, 2, 1), appends(1, 4, 2, 2, 2, 1, command(2, 3, "x")))
	does(t, "one that is no member has that too", n, has(4, 1, 2, 3))
	ticks(n, 2)
	tells(t, "17.3: to members alone", n,
		appends(1, 2, 2, 1, 1, 1, none(2, 2), command(2, 3, "x")), appends(1, 3, 2, 1, 1, 1, none(2, 2), command(2, 3, "x")))
}
