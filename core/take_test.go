package core_test

import (
	"testing"

	"bursar/api"
	"bursar/core"
)

// steps hands messages to a node, which may not be refused.
func steps(t *testing.T, n *core.Core, some ...api.Msg) {
	t.Helper()
	for _, m := range some {
		if e := n.Step(m, 5); e != api.OK {
			t.Errorf("17.4: Step(%s): %d", short(m), e)
		}
	}
}

// TestTakeNothing: 17.7, behind New and behind nothing: Hard alone.
func TestTakeNothing(t *testing.T) {
	n := made(t, 2, api.Hard{Term: 4, Vote: 1}, none(2, 2))
	for range 3 {
		o := tells(t, "17.7: nothing happened", n)
		keeps(t, "nothing happened", o, api.Snap{}, false)
		if o.Hard != (api.Hard{Term: 4, Vote: 1}) {
			t.Errorf("17.7: nothing happened: %v", o.Hard)
		}
	}
	n.Tick(0)
	keeps(t, "a tick", tells(t, "17.7: a tick", n), api.Snap{}, false)
	n = leader(t)
	proposes(t, n, "x")
	keeps(t, "what was told before", tells(t, "17.7: what was told before", n), api.Snap{}, false)
}

// TestTakeAll: 17.7, what more calls than one told, in order.
func TestTakeAll(t *testing.T) {
	n := alone(t).n
	steps(t, n, asking(1, 2, 5, 9, 9), appends(3, 2, 4, 4, 3, 2, none(4, 5)), appends(3, 2, 4, 5, 4, 2, command(4, 6, "x")), asking(1, 2, 9, 9, 9), votesNot(1, 2, 6))
	o := tells(t, "17.7: more calls", n, would(2, 1, 5), has(2, 3, 4, 5), has(2, 3, 4, 6), wouldNot(2, 1, 4))
	keeps(t, "more calls", o, api.Snap{}, false, none(4, 5), command(4, 6, "x"))
	if o.Hard != (api.Hard{Term: 6}) {
		t.Errorf("17.7: more calls: %v", o.Hard)
	}
	n = leader(t)
	for _, data := range []string{"c", "d"} {
		if _, e := n.Propose([]byte(data)); e != api.OK {
			t.Errorf("17.5: Propose: %d", e)
		}
	}
	steps(t, n, has(2, 1, 2, 1))
	o = tells(t, "17.7: a leader's", n,
		appends(1, 2, 2, 1, 1, 2, none(2, 2), command(2, 3, "c")), appends(1, 3, 2, 2, 2, 2, command(2, 3, "c")),
		appends(1, 2, 2, 1, 1, 2, none(2, 2), command(2, 3, "c"), command(2, 4, "d")), appends(1, 3, 2, 2, 2, 2, command(2, 3, "c"), command(2, 4, "d")),
		appends(1, 2, 2, 1, 1, 2, none(2, 2), command(2, 3, "c"), command(2, 4, "d")))
	keeps(t, "a leader's", o, api.Snap{}, false, command(2, 3, "c"), command(2, 4, "d"))
}

// TestTakeAlone: 17.7, one that is alone, from its canvass to a change of its members.
func TestTakeAlone(t *testing.T) {
	n := begun(t, config(2), 1, api.Hard{Term: 1}, api.Snap{Base: api.Base{Index: 1, Term: 1, Conf: 2}}, 0)
	ticks(n, 10)
	for _, f := range []func() (uint64, api.Errno){
		func() (uint64, api.Errno) { return n.Propose([]byte("x")) },
		func() (uint64, api.Errno) { return n.Change(true, 2) },
		func() (uint64, api.Errno) { return n.Propose([]byte("y")) },
	} {
		if _, e := f(); e != api.OK {
			t.Errorf("17.5: %d", e)
		}
	}
	four := row(none(2, 2), command(2, 3, "x"), conf(2, 4, 6), command(2, 5, "y"))
	o := tells(t, "17.7: from its canvass on", n, appends(1, 2, 2, 3, 2, 3, four[2]), appends(1, 2, 2, 3, 2, 3, four[2:]...))
	keeps(t, "from its canvass on", o, api.Snap{}, false, four...)
	if o.Hard != (api.Hard{Term: 2, Vote: 1}) {
		t.Errorf("17.7: from its canvass on: %v", o.Hard)
	}
}

// TestTakeCutAway: 17.7, entries that were put and cut away again: from the least of all,
// what there is now.
func TestTakeCutAway(t *testing.T) {
	n := alone(t).n
	steps(t, n, appends(3, 2, 4, 4, 3, 2, none(4, 5), none(4, 6)), appends(3, 2, 5, 4, 3, 2, none(5, 5)))
	keeps(t, "cut away at the same place", n.Take(), api.Snap{}, false, none(5, 5))
	steps(t, n, appends(3, 2, 5, 5, 5, 2, none(5, 6), none(5, 7)), appends(3, 2, 6, 3, 2, 2, none(6, 4)))
	keeps(t, "cut away further down", n.Take(), api.Snap{}, false, none(6, 4))
	steps(t, n, appends(3, 2, 6, 3, 2, 2, none(6, 4), none(6, 5)), appends(3, 2, 6, 5, 6, 2, none(6, 6)), appends(3, 2, 7, 5, 6, 2, none(7, 6)))
	keeps(t, "cut away further up", n.Take(), api.Snap{}, false, none(6, 5), none(7, 6))
	steps(t, n, appends(3, 2, 7, 3, 2, 2, none(6, 4), none(6, 5), none(7, 6)))
	keeps(t, "what is there", n.Take(), api.Snap{}, false)
	steps(t, n, appends(3, 2, 7, 9, 7, 2, none(7, 10)))
	keeps(t, "what is refused", n.Take(), api.Snap{}, false)
}

// TestTakeSnap: 17.7, behind a snapshot that was completed, and entries before and behind it.
func TestTakeSnap(t *testing.T) {
	whole := api.Snap{Base: other, Data: []byte("new")}
	n := alone(t).n
	steps(t, n, piece(1, 2, 4, other, 0, whole.Data, true))
	keeps(t, "a snapshot", n.Take(), whole, false)
	keeps(t, "behind it", n.Take(), api.Snap{}, false)
	n = alone(t).n
	steps(t, n, appends(1, 2, 4, 4, 3, 2, none(4, 5)), piece(1, 2, 4, other, 0, whole.Data, true))
	keeps(t, "entries, and a snapshot", n.Take(), whole, false)
	n = alone(t).n
	steps(t, n, piece(1, 2, 4, other, 0, whole.Data, true), appends(1, 2, 4, 9, 4, 9, none(4, 10), none(4, 11)))
	keeps(t, "a snapshot, and entries", n.Take(), whole, false, none(4, 10), none(4, 11))
	n = alone(t).n
	steps(t, n, appends(1, 2, 4, 4, 3, 2, none(4, 5)), piece(1, 2, 4, other, 0, whole.Data, true), appends(1, 2, 4, 9, 4, 9, none(4, 10)))
	keeps(t, "entries, a snapshot, and entries", n.Take(), whole, false, none(4, 10))
	steps(t, n, appends(1, 2, 4, 10, 4, 9, none(4, 11)))
	keeps(t, "entries, long behind a snapshot", n.Take(), api.Snap{}, false, none(4, 11))
}

// TestTakeKept: 17.7, behind a snapshot of what the log has: entries that are new, and lie
// behind it, are told.
func TestTakeKept(t *testing.T) {
	five := api.Snap{Base: api.Base{Index: 5, Term: 4, Conf: 14}, Data: []byte("five")}
	three := api.Snap{Base: api.Base{Index: 3, Term: 2, Conf: 14}, Data: []byte("three")}
	n := alone(t).n
	steps(t, n, appends(1, 2, 4, 4, 3, 2, none(4, 5), none(4, 6), none(4, 7)), piece(1, 2, 4, five.Base, 0, five.Data, true))
	keeps(t, "new ones on both sides", n.Take(), five, true, none(4, 6), none(4, 7))
	n = alone(t).n
	steps(t, n, appends(1, 2, 4, 4, 3, 2, none(4, 5)), piece(1, 2, 4, five.Base, 0, five.Data, true))
	keeps(t, "new ones up to it", n.Take(), five, true)
	n = alone(t).n
	steps(t, n, piece(1, 2, 4, three.Base, 0, three.Data, true))
	keeps(t, "nothing new", n.Take(), three, true)
	n = alone(t).n
	steps(t, n, piece(1, 2, 4, three.Base, 0, three.Data, true), appends(1, 2, 4, 4, 3, 3, none(4, 5)))
	keeps(t, "new ones behind what was there", n.Take(), three, true, none(4, 5))
	n = alone(t).n
	steps(t, n, appends(1, 2, 4, 4, 3, 2, none(4, 5)), piece(1, 2, 4, three.Base, 0, three.Data, true))
	keeps(t, "the same, in another order", n.Take(), three, true, none(4, 5))
}

// TestTakeLastSnap: 17.7, of two snapshots the last is told, with its own Kept.
func TestTakeLastSnap(t *testing.T) {
	three := api.Snap{Base: api.Base{Index: 3, Term: 2, Conf: 14}, Data: []byte("three")}
	nine := api.Snap{Base: other, Data: []byte("nine")}
	ten := api.Snap{Base: api.Base{Index: 10, Term: 4, Conf: 6}, Data: []byte("ten")}
	n := alone(t).n
	steps(t, n, piece(1, 2, 4, three.Base, 0, three.Data, true), piece(1, 2, 4, nine.Base, 0, nine.Data, true))
	keeps(t, "the second is not kept", n.Take(), nine, false)
	n = alone(t).n
	steps(t, n, piece(1, 2, 4, nine.Base, 0, nine.Data, true), appends(1, 2, 4, 9, 4, 9, none(4, 10), none(4, 11)), piece(1, 2, 4, ten.Base, 0, ten.Data, true))
	keeps(t, "the second is kept", n.Take(), ten, true, none(4, 11))
	n = alone(t).n
	steps(t, n, piece(1, 2, 4, nine.Base, 0, nine.Data, true), piece(1, 2, 4, ten.Base, 0, ten.Data[:1], false))
	keeps(t, "the second is not complete", n.Take(), nine, false)
	steps(t, n, piece(1, 2, 4, ten.Base, 1, ten.Data[1:], true))
	keeps(t, "the second is complete", n.Take(), ten, false)
}

// TestTakeCompacted: 17.7, behind a Compact what lies up to it is not told.
func TestTakeCompacted(t *testing.T) {
	n := leads(t, begun(t, config(1), 1, api.Hard{Term: 1}, api.Snap{Base: api.Base{Index: 1, Term: 1, Conf: 2}}, 0))
	for _, data := range []string{"c", "d", "e"} {
		if _, e := n.Propose([]byte(data)); e != api.OK {
			t.Errorf("17.5: Propose: %d", e)
		}
	}
	if e := n.Compact(api.Snap{Base: api.Base{Index: 4, Term: 2, Conf: 2}}); e != api.OK {
		t.Errorf("17.6: Compact: %d", e)
	}
	keeps(t, "Compact behind a Propose", n.Take(), api.Snap{}, false, command(2, 5, "e"))
	if _, e := n.Propose([]byte("f")); e != api.OK {
		t.Errorf("17.5: Propose: %d", e)
	}
	if e := n.Compact(api.Snap{Base: api.Base{Index: 6, Term: 2, Conf: 2}}); e != api.OK {
		t.Errorf("17.6: Compact: %d", e)
	}
	keeps(t, "Compact of all", n.Take(), api.Snap{}, false)
	f := alone(t).n
	steps(t, f, piece(1, 2, 4, other, 0, []byte("nine"), true), appends(1, 2, 4, 9, 4, 10, none(4, 10)))
	if e := f.Compact(api.Snap{Base: api.Base{Index: 10, Term: 4, Conf: 14}, Data: []byte("ten")}); e != api.OK {
		t.Errorf("17.6: Compact: %d", e)
	}
	keeps(t, "a snapshot, and then a Compact", f.Take(), api.Snap{Base: other, Data: []byte("nine")}, false)
}

// TestExamples: the runs of the chapter's table.
func TestExamples(t *testing.T) {
	n := made(t, 1, api.Hard{Term: 1})
	if s := n.Status(); s.Role != api.Follower || s.Limit != 13 || s.Last != 1 {
		t.Errorf("17.1: %+v", s)
	}
	ticks(n, 13)
	if o := tells(t, "17.3: thirteen ticks", n, asking(1, 2, 2, 1, 1), asking(1, 3, 2, 1, 1)); o.Hard != (api.Hard{Term: 1}) {
		t.Errorf("17.3: %v", o.Hard)
	}
	o := does(t, "2 would", n, would(2, 1, 2), voting(1, 2, 2, 1, 1), voting(1, 3, 2, 1, 1))
	if o.Hard != (api.Hard{Term: 2, Vote: 1}) {
		t.Errorf("17.3: %v", o.Hard)
	}
	o = does(t, "3 votes", n, votes(3, 1, 2), appends(1, 2, 2, 1, 1, 1, none(2, 2)), appends(1, 3, 2, 1, 1, 1, none(2, 2)))
	keeps(t, "3 votes", o, api.Snap{}, false, none(2, 2))
	does(t, "3 has it", n, has(3, 1, 2, 2))
	if s := n.Status(); s.Commit != 2 {
		t.Errorf("17.4: %+v", s)
	}
	f := made(t, 2, api.Hard{Term: 4}, none(3, 2))
	does(t, "a log that is not good", f, voting(1, 2, 4, 1, 1), votesNot(2, 1, 4))
	proposing(t, "a follower", f, []byte("x"), api.ErrLeader)
}
