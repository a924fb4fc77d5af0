package core_test

import (
	"math"
	"testing"

	"bursar/api"
	"bursar/core"
)

// TestPropose: 17.5, a command of the leader's term at the end of its log, sent at once.
func TestPropose(t *testing.T) {
	n := leader(t)
	ticks(n, 1)
	s := n.Status()
	data := stuff(mostData)
	at, e := n.Propose(data)
	if at != 3 || e != api.OK {
		t.Errorf("17.5: Propose: %d %d", at, e)
	}
	three := command(2, 3, string(data))
	o := tells(t, "17.5: Propose", n, appends(1, 2, 2, 1, 1, 2, none(2, 2), three), appends(1, 3, 2, 2, 2, 2, three))
	keeps(t, "Propose", o, api.Snap{}, false, three)
	stands(t, "Propose", n, s, func(s *api.Status) { s.Last = 3 })
	at, e = n.Propose([]byte{0})
	if at != 4 || e != api.OK {
		t.Errorf("17.5: Propose: %d %d", at, e)
	}
	four := command(2, 4, "\x00")
	o = tells(t, "17.5: Propose", n, appends(1, 2, 2, 1, 1, 2, none(2, 2), three, four), appends(1, 3, 2, 2, 2, 2, three, four))
	keeps(t, "Propose", o, api.Snap{}, false, four)
	stands(t, "Propose", n, s, func(s *api.Status) { s.Last = 4 })
	logged(t, "Propose", n, none(2, 2), three, four)
}

// TestProposeMany: 17.2, at most MaxBatch entries are sent at once.
func TestProposeMany(t *testing.T) {
	n := leader(t)
	proposes(t, n, "c", "d", "e", "f")
	if at, e := n.Propose([]byte("g")); at != 7 || e != api.OK {
		t.Errorf("17.5: Propose: %d %d", at, e)
	}
	tells(t, "17.2: more than a message has room for", n,
		appends(1, 2, 2, 1, 1, 2, none(2, 2), command(2, 3, "c"), command(2, 4, "d"), command(2, 5, "e")),
		appends(1, 3, 2, 2, 2, 2, command(2, 3, "c"), command(2, 4, "d"), command(2, 5, "e"), command(2, 6, "f")))
}

// proposing fails where Propose answers another error, or changes something.
func proposing(t *testing.T, what string, n *core.Core, data []byte, want api.Errno) {
	t.Helper()
	s := n.Status()
	if at, e := n.Propose(data); at != 0 || e != want {
		t.Errorf("17.5: Propose, %s: %d %d, not %d", what, at, e, want)
	}
	stands(t, what, n, s, nil)
	keeps(t, what, tells(t, "17.5: "+what, n), api.Snap{}, false)
}

// changing fails where Change answers another error, or changes something.
func changing(t *testing.T, what string, n *core.Core, add bool, node int, want api.Errno) {
	t.Helper()
	s := n.Status()
	if at, e := n.Change(add, node); at != 0 || e != want {
		t.Errorf("17.5: Change(%t, %d), %s: %d %d, not %d", add, node, what, at, e, want)
	}
	stands(t, what, n, s, nil)
	keeps(t, what, tells(t, "17.5: "+what, n), api.Snap{}, false)
}

// TestWrongPropose: 17.5, each error by itself, and where two would do.
func TestWrongPropose(t *testing.T) {
	for name, of := range roles() {
		p := of(t)
		if p.n.Status().Role == api.Leader {
			continue
		}
		proposing(t, name, p.n, []byte("x"), api.ErrLeader)
		proposing(t, name+", of no bytes", p.n, nil, api.ErrLeader)
		proposing(t, name+", of too many", p.n, stuff(mostData+1), api.ErrLeader)
	}
	n := leader(t)
	proposing(t, "nil", n, nil, api.ErrArg)
	proposing(t, "no bytes", n, []byte{}, api.ErrArg)
	proposing(t, "a byte too much", n, stuff(mostData+1), api.ErrArg)
	proposing(t, "far too much", n, stuff(1<<16), api.ErrArg)
	for _, size := range []int{4, 5, 8} {
		c := config(3)
		c.Log = size
		n = leads(t, begun(t, c, 1, api.Hard{Term: 1}, snap(), 0))
		for k := 1; k < size; k++ {
			proposes(t, n, "x")
		}
		s := n.Status()
		if s.Last != uint64(size)+1 {
			t.Errorf("17.5: a log for %d ends at %d", size, s.Last)
		}
		proposing(t, "a full log", n, []byte("x"), api.ErrFull)
		proposing(t, "a full log, no bytes", n, nil, api.ErrArg)
		proposing(t, "a full log, too many", n, stuff(mostData+1), api.ErrArg)
		does(t, "2 has all", n, has(2, 1, 2, s.Last))
		changing(t, "a full log", n, false, 3, api.ErrFull)
		changing(t, "a full log, a member", n, true, 3, api.ErrMember)
		if e := n.Compact(api.Snap{Base: api.Base{Index: 2, Term: 2, Conf: 14}}); e != api.OK {
			t.Errorf("17.6: Compact: %d", e)
		}
		proposes(t, n, "y")
		proposing(t, "full again", n, []byte("x"), api.ErrFull)
	}
}

// TestFullOfMore: 17.5, a log that has more than its room, for it came so.
func TestFullOfMore(t *testing.T) {
	c := config(3)
	c.Log = 4
	n := leads(t, begun(t, c, 1, api.Hard{Term: 1}, snap(), 0, run(2, 1, 1, 1, 1, 1)...))
	if s := n.Status(); s.Last != 7 {
		t.Errorf("17.2: a new leader appends, whatever room there is: %+v", s)
	}
	proposing(t, "more than full", n, []byte("x"), api.ErrFull)
	does(t, "2 has all", n, has(2, 1, 2, 7))
	changing(t, "more than full", n, false, 3, api.ErrFull)
}

// TestProposeAlone: 17.5, of one that is alone it is committed at once.
func TestProposeAlone(t *testing.T) {
	n := leads(t, begun(t, config(3), 2, api.Hard{Term: 1}, api.Snap{Base: api.Base{Index: 1, Term: 1, Conf: 4}}, 0))
	for index := uint64(3); index < 9; index++ {
		proposes(t, n, "x")
		if s := n.Status(); s.Commit != index || s.Last != index {
			t.Errorf("17.5: Propose of one alone: %+v", s)
		}
	}
}

// TestChange: 17.5, a node less and a node more: the new members hold at once.
func TestChange(t *testing.T) {
	n := leader(t)
	s := n.Status()
	at, e := n.Change(false, 3)
	if at != 3 || e != api.OK {
		t.Errorf("17.5: Change: %d %d", at, e)
	}
	o := tells(t, "17.5: Change, to the new members alone", n, appends(1, 2, 2, 1, 1, 2, none(2, 2), conf(2, 3, 6)))
	keeps(t, "Change", o, api.Snap{}, false, conf(2, 3, 6))
	stands(t, "Change", n, s, func(s *api.Status) { s.Last, s.Conf, s.ConfIndex = 3, 6, 3 })
	does(t, "one that left has it", n, has(3, 1, 2, 3))
	stands(t, "one that left has it", n, s, func(s *api.Status) { s.Last, s.Conf, s.ConfIndex = 3, 6, 3 })
	changing(t, "one is under way", n, true, 3, api.ErrBusy)
	changing(t, "one is under way, no node", n, true, 9, api.ErrBusy)
	changing(t, "one is under way, a member", n, true, 1, api.ErrBusy)
	does(t, "2 has it", n, has(2, 1, 2, 3))
	stands(t, "2 has it", n, s, func(s *api.Status) { s.Last, s.Conf, s.ConfIndex, s.Commit = 3, 6, 3, 3 })
	at, e = n.Change(true, 3)
	if at != 4 || e != api.OK {
		t.Errorf("17.5: Change: %d %d", at, e)
	}
	// Of 3 the leader knows nothing any more: it is sent what comes now.
	o = tells(t, "17.5: Change, to the one that joins too", n, appends(1, 2, 2, 3, 2, 3, conf(2, 4, 14)), appends(1, 3, 2, 3, 2, 3, conf(2, 4, 14)))
	keeps(t, "Change", o, api.Snap{}, false, conf(2, 4, 14))
	does(t, "it lacks what is before", n, lacks(3, 1, 2, 2), appends(1, 3, 2, 2, 2, 3, conf(2, 3, 6), conf(2, 4, 14)))
	does(t, "it has all", n, has(3, 1, 2, 4))
	stands(t, "it has all", n, s, func(s *api.Status) { s.Last, s.Conf, s.ConfIndex, s.Commit = 4, 14, 4, 4 })
}

// TestChangeForgets: 17.5, of one that comes back its match and its offset are forgotten.
func TestChangeForgets(t *testing.T) {
	n := leads(t, begun(t, config(4), 1, api.Hard{Term: 1}, snap(), 0))
	proposes(t, n, "c", "d")
	does(t, "2 has all", n, has(2, 1, 2, 4))
	does(t, "3 has all", n, has(3, 1, 2, 4))
	changed(t, n, false, 3, 5, 6)
	does(t, "2 has that", n, has(2, 1, 2, 5))
	changed(t, n, true, 3, 6, 14)
	does(t, "3 has less than it had", n, has(3, 1, 2, 2), appends(1, 3, 2, 5, 2, 5, conf(2, 6, 14)))
	does(t, "3 lacks less than it had", n, lacks(3, 1, 2, 1), appends(1, 3, 2, 2, 2, 5, command(2, 3, "c"), command(2, 4, "d"), conf(2, 5, 6), conf(2, 6, 14)))
	if s := n.Status(); s.Commit != 5 {
		t.Errorf("17.5: what one had before it left and came back counts: %+v", s)
	}
	does(t, "2 has all", n, has(2, 1, 2, 6))
	if e := n.Compact(api.Snap{Base: api.Base{Index: 6, Term: 2, Conf: 14}, Data: stuff(600)}); e != api.OK {
		t.Errorf("17.6: Compact: %d", e)
	}
	b := api.Base{Index: 6, Term: 2, Conf: 14}
	does(t, "3 has some of the snapshot", n, wants(3, 1, 2, b, 300), piece(1, 3, 2, b, 300, stuff(600)[300:556], false))
	changed(t, n, false, 3, 7, 6)
	does(t, "2 has that", n, has(2, 1, 2, 7))
	changed(t, n, true, 3, 8, 14)
	does(t, "3 has all but this", n, lacks(3, 1, 2, 1), piece(1, 3, 2, b, 0, stuff(600)[:256], false))
	changing(t, "one is under way", n, true, 4, api.ErrBusy)
}

// changed makes a leader change its members.
func changed(t *testing.T, n *core.Core, add bool, node int, index uint64, set int) {
	t.Helper()
	if at, e := n.Change(add, node); at != index || e != api.OK {
		t.Fatalf("17.5: Change(%t, %d): %d %d, not %d", add, node, at, e, index)
	}
	if s := n.Status(); s.Last != index || s.Conf != set || s.ConfIndex != index {
		t.Fatalf("17.5: Change(%t, %d): %+v", add, node, s)
	}
	n.Take()
}

// TestJoins: 17.5, a node that was never a member: a majority of the new ones is needed.
func TestJoins(t *testing.T) {
	n := leads(t, begun(t, config(2), 1, api.Hard{Term: 1}, api.Snap{Base: api.Base{Index: 1, Term: 1, Conf: 2}, Data: []byte("a")}, 0))
	at, e := n.Change(true, 2)
	if at != 3 || e != api.OK {
		t.Errorf("17.5: Change: %d %d", at, e)
	}
	tells(t, "17.5: one joins one", n, appends(1, 2, 2, 2, 2, 2, conf(2, 3, 6)))
	stands(t, "one joins one", n, n.Status(), func(s *api.Status) { s.Commit, s.Conf, s.Last = 2, 6, 3 })
	to := begun(t, config(2), 2, api.Hard{}, api.Snap{}, 0)
	does(t, "it has nothing", to, appends(1, 2, 2, 2, 2, 2, conf(2, 3, 6)), lacks(2, 1, 2, 0))
	does(t, "it lacks all", n, lacks(2, 1, 2, 0), piece(1, 2, 2, api.Base{Index: 1, Term: 1, Conf: 2}, 0, []byte("a"), true))
	does(t, "the snapshot", to, piece(1, 2, 2, api.Base{Index: 1, Term: 1, Conf: 2}, 0, []byte("a"), true), has(2, 1, 2, 1))
	does(t, "it has the snapshot", n, has(2, 1, 2, 1), appends(1, 2, 2, 1, 1, 2, none(2, 2), conf(2, 3, 6)))
	does(t, "the rest", to, appends(1, 2, 2, 1, 1, 2, none(2, 2), conf(2, 3, 6)), has(2, 1, 2, 3))
	does(t, "it has all", n, has(2, 1, 2, 3))
	stands(t, "it has all", n, n.Status(), func(s *api.Status) { s.Commit, s.Role = 3, api.Leader })
	changed(t, n, false, 2, 4, 2)
	if s := n.Status(); s.Commit != 4 {
		t.Errorf("17.5: alone again, it counts at once: %+v", s)
	}
	tells(t, "17.5: alone again", n)
}

// TestLeaves: 17.2 and 17.5, a leader takes itself out: it leads until that is committed,
// without its own vote, and follows nobody then.
func TestLeaves(t *testing.T) {
	n := leader(t)
	at, e := n.Change(false, 1)
	if at != 3 || e != api.OK {
		t.Errorf("17.5: Change of itself: %d %d", at, e)
	}
	tells(t, "17.5: Change of itself", n, appends(1, 2, 2, 1, 1, 2, none(2, 2), conf(2, 3, 12)), appends(1, 3, 2, 2, 2, 2, conf(2, 3, 12)))
	ticks(n, 2)
	tells(t, "17.3: it leads on", n, appends(1, 2, 2, 1, 1, 2, none(2, 2), conf(2, 3, 12)), appends(1, 3, 2, 2, 2, 2, conf(2, 3, 12)))
	proposes(t, n, "d")
	n.Tick(0)
	s := n.Status()
	does(t, "one of two has it", n, has(2, 1, 2, 3), appends(1, 2, 2, 3, 2, 2, command(2, 4, "d")))
	stands(t, "one of two has it", n, s, nil)
	does(t, "both have it", n, has(3, 1, 2, 3))
	stands(t, "both have it", n, s, func(s *api.Status) { s.Role, s.Lead, s.Commit = api.Follower, 0, 3 })
	proposing(t, "it leads no more", n, []byte("x"), api.ErrLeader)
	changing(t, "it leads no more", n, true, 1, api.ErrLeader)
	does(t, "both have the next", n, has(2, 1, 2, 4))
	ticks(n, 99)
	tells(t, "17.3: it is no member", n)
	stands(t, "it is no member", n, s, func(s *api.Status) { s.Role, s.Lead, s.Commit, s.Elapsed = api.Follower, 0, 3, 100 })
	does(t, "another leads", n, appends(3, 1, 3, 3, 2, 3, none(3, 4)), has(1, 3, 3, 4))
}

// TestLeavesOne: 17.2, of two nodes the leader leaves: the other alone commits.
func TestLeavesOne(t *testing.T) {
	n := leads(t, begun(t, config(2), 1, api.Hard{Term: 1}, api.Snap{Base: api.Base{Index: 1, Term: 1, Conf: 6}}, 0))
	does(t, "2 has it", n, has(2, 1, 2, 2))
	changed(t, n, false, 1, 3, 4)
	s := n.Status()
	if s.Commit != 2 || s.Role != api.Leader {
		t.Errorf("17.2: a leader that is no member counts itself: %+v", s)
	}
	does(t, "2 has that", n, has(2, 1, 2, 3))
	stands(t, "2 has that", n, s, func(s *api.Status) { s.Role, s.Lead, s.Commit = api.Follower, 0, 3 })
}

// TestCountsLess: 17.5, with a node less, less is needed at once.
func TestCountsLess(t *testing.T) {
	n := leads(t, begun(t, config(4), 1, api.Hard{Term: 1}, api.Snap{Base: api.Base{Index: 1, Term: 1, Conf: 30}}, 0))
	does(t, "2 has it", n, has(2, 1, 2, 2))
	does(t, "3 has it", n, has(3, 1, 2, 2))
	proposes(t, n, "c")
	does(t, "2 has that too", n, has(2, 1, 2, 3))
	if s := n.Status(); s.Commit != 2 {
		t.Errorf("17.2: two of four have it: %+v", s)
	}
	changed(t, n, false, 4, 4, 14)
	if s := n.Status(); s.Commit != 3 || s.Last != 4 {
		t.Errorf("17.5: two of three have it: %+v", s)
	}
}

// TestWrongChange: 17.5, each error by itself, and where two would do, in the order of the
// chapter.
func TestWrongChange(t *testing.T) {
	for name, of := range roles() {
		p := of(t)
		if p.n.Status().Role != api.Leader {
			changing(t, name, p.n, false, 3, api.ErrLeader)
			changing(t, name+", no node", p.n, true, 0, api.ErrLeader)
			changing(t, name+", a member", p.n, true, 2, api.ErrLeader)
		}
	}
	p := leading(t)
	changing(t, "nothing of its term is committed", p.n, false, 3, api.ErrBusy)
	changing(t, "nothing of its term is committed, no node", p.n, true, 0, api.ErrBusy)
	n := leader(t)
	for _, node := range []int{0, -1, 4, 7, 8, 64, math.MaxInt, math.MinInt} {
		changing(t, "no node", n, true, node, api.ErrArg)
		changing(t, "no node", n, false, node, api.ErrArg)
	}
	for node := 1; node <= 3; node++ {
		changing(t, "a member", n, true, node, api.ErrMember)
	}
	changed(t, n, false, 2, 3, 10)
	does(t, "3 has that", n, has(3, 1, 2, 3))
	changing(t, "no member", n, false, 2, api.ErrMember)
	changed(t, n, false, 3, 4, 2)
	changing(t, "the last one", n, false, 1, api.ErrMember)
	changing(t, "no member", n, false, 3, api.ErrMember)
	changing(t, "the last one, and it joins", n, true, 1, api.ErrMember)
	// A member above Nodes is no node, neither to leave nor to join.
	n = leads(t, begun(t, config(3), 1, api.Hard{Term: 1}, api.Snap{Base: api.Base{Index: 1, Term: 1, Conf: 2 + 4 + 16}}, 0))
	does(t, "2 has it", n, has(2, 1, 2, 2))
	changing(t, "a member above Nodes", n, false, 4, api.ErrArg)
	changed(t, n, true, 3, 3, 30)
}

// TestFullSet: 17.5, seven nodes: none can join, each can leave.
func TestFullSet(t *testing.T) {
	for node := 1; node <= 7; node++ {
		n := leads(t, begun(t, config(7), 4, api.Hard{Term: 1}, api.Snap{Base: api.Base{Index: 1, Term: 1, Conf: 254}}, 0))
		for p := 1; p <= 3; p++ {
			n.Step(has(p, 4, 2, 2), 0)
		}
		n.Take()
		changing(t, "a full set", n, true, node, api.ErrMember)
		changed(t, n, false, node, 3, 254-1<<node)
	}
}

// TestChangeBehindSnap: 17.5, the entry at Commit may be in the snapshot.
func TestChangeBehindSnap(t *testing.T) {
	n := leader(t)
	if e := n.Compact(api.Snap{Base: api.Base{Index: 2, Term: 2, Conf: 14}}); e != api.OK {
		t.Errorf("17.6: Compact: %d", e)
	}
	changed(t, n, false, 3, 3, 6)
	n = leads(t, made(t, 1, api.Hard{Term: 3}))
	changing(t, "of the base before its term", n, false, 3, api.ErrBusy)
}
