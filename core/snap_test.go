package core_test

import (
	"testing"

	"bursar/api"
)

var (
	far   = api.Base{Index: 9, Term: 4, Conf: 6}
	other = api.Base{Index: 9, Term: 4, Conf: 14}
)

// TestSnapInOrder: 17.4, a snapshot comes in pieces, and is then that of the node.
func TestSnapInOrder(t *testing.T) {
	data := stuff(600)
	for _, role := range []string{"alone", "led", "led, heard 11 ticks ago", "canvassing", "a voter"} {
		n := roles()[role](t).n
		s := n.Status()
		o := does(t, role+": the first piece", n, piece(3, 2, 4, far, 0, data[:256], false), wants(2, 3, 4, far, 256))
		keeps(t, role+": the first piece", o, api.Snap{}, false)
		stands(t, role+": the first piece", n, s, func(s *api.Status) { s.Lead, s.Elapsed, s.Receiving, s.Buffered = 3, 0, 1, 256 })
		n.Tick(0)
		o = does(t, role+": the second", n, piece(3, 2, 4, far, 256, data[256:512], false), wants(2, 3, 4, far, 512))
		keeps(t, role+": the second", o, api.Snap{}, false)
		stands(t, role+": the second", n, s, func(s *api.Status) { s.Lead, s.Elapsed, s.Receiving, s.Buffered = 3, 0, 1, 512 })
		logged(t, role+": the second", n, run(2, 1, 2, 3)...)
		o = does(t, role+": the last", n, piece(3, 2, 4, far, 512, data[512:], true), has(2, 3, 4, 9))
		keeps(t, role+": the last", o, api.Snap{Base: far, Data: data}, false)
		logged(t, role+": the last", n)
		stands(t, role+": the last", n, s, func(s *api.Status) {
			s.Lead, s.Elapsed, s.Base, s.Last, s.Commit, s.Conf, s.ConfIndex = 3, 0, far, 9, 9, 6, 9
		})
		does(t, role+": the last again", n, piece(3, 2, 4, far, 512, data[512:], true), has(2, 3, 4, 9))
		does(t, role+": another snapshot, that it has", n, piece(3, 2, 4, other, 0, data[:9], false), has(2, 3, 4, 9))
		does(t, role+": entries behind it", n, appends(3, 2, 4, 9, 4, 9, none(4, 10)), has(2, 3, 4, 10))
		logged(t, role+": entries behind it", n, none(4, 10))
	}
}

// TestSnapOutOfOrder: 17.4, pieces that come twice, or out of turn, are nothing but asked
// for again; one of another snapshot begins anew.
func TestSnapOutOfOrder(t *testing.T) {
	data := stuff(600)
	n := led(t, 3).n
	does(t, "the second first", n, piece(3, 2, 4, far, 256, data[256:512], false), wants(2, 3, 4, far, 0))
	stands(t, "the second first", n, n.Status(), func(s *api.Status) { s.Receiving, s.Buffered = 1, 0 })
	does(t, "the last first", n, piece(3, 2, 4, far, 512, data[512:], true), wants(2, 3, 4, far, 0))
	does(t, "the first", n, piece(3, 2, 4, far, 0, data[:256], false), wants(2, 3, 4, far, 256))
	does(t, "the first again", n, piece(3, 2, 4, far, 0, data[:256], false), wants(2, 3, 4, far, 256))
	does(t, "the first again, as the last", n, piece(3, 2, 4, far, 0, data[:256], true), wants(2, 3, 4, far, 256))
	does(t, "the last too soon", n, piece(3, 2, 4, far, 512, data[512:], true), wants(2, 3, 4, far, 256))
	does(t, "in the midst of the first", n, piece(3, 2, 4, far, 100, data[100:356], false), wants(2, 3, 4, far, 256))
	does(t, "a piece of no bytes", n, piece(3, 2, 4, far, 256, nil, false), wants(2, 3, 4, far, 256))
	stands(t, "pieces out of turn", n, n.Status(), func(s *api.Status) { s.Receiving, s.Buffered, s.Base = 1, 256, base })
	does(t, "of another Conf", n, piece(3, 2, 4, other, 256, data[256:512], false), wants(2, 3, 4, other, 0))
	stands(t, "of another Conf", n, n.Status(), func(s *api.Status) { s.Receiving, s.Buffered = 1, 0 })
	does(t, "the first of the other", n, piece(3, 2, 4, other, 0, data[:7], false), wants(2, 3, 4, other, 7))
	does(t, "of the first snapshot", n, piece(3, 2, 4, far, 0, data[:1], false), wants(2, 3, 4, far, 1))
	o := does(t, "the rest at once", n, piece(3, 2, 4, far, 1, data[1:9], true), has(2, 3, 4, 9))
	keeps(t, "the rest at once", o, api.Snap{Base: far, Data: data[:9]}, false)
}

// TestSnapOfNothing: 17.4, a snapshot of no bytes comes in one piece.
func TestSnapOfNothing(t *testing.T) {
	n := led(t, 0).n
	o := does(t, "no bytes", n, piece(3, 2, 4, far, 0, nil, true), has(2, 3, 4, 9))
	keeps(t, "no bytes", o, api.Snap{Base: far}, false)
	if s := n.Status(); s.Base != far || s.Receiving != 0 {
		t.Errorf("17.4: no bytes: %+v", s)
	}
	n = begun(t, config(3), 2, api.Hard{}, api.Snap{}, 0)
	o = does(t, "to a node of nothing", n, piece(3, 2, 1, base, 0, []byte("a"), true), has(2, 3, 1, 1))
	keeps(t, "to a node of nothing", o, api.Snap{Base: base, Data: []byte("a")}, false)
	stands(t, "to a node of nothing", n, api.Status{ID: 2, Lead: 3, Hard: api.Hard{Term: 1}, Base: base, Last: 1, Commit: 1, Conf: 14, ConfIndex: 1, Limit: 10}, nil)
}

// TestSnapOfMost: 17.4, a snapshot of MaxImage bytes goes over; one of more does not.
func TestSnapOfMost(t *testing.T) {
	for _, size := range []int{mostImage, mostImage - 1, mostImage - mostPiece} {
		data := stuff(size)
		n := led(t, 0).n
		at := 0
		for ; size-at > mostPiece; at += mostPiece {
			does(t, "a piece of many", n, piece(3, 2, 4, far, at, data[at:at+mostPiece], false), wants(2, 3, 4, far, at+mostPiece))
		}
		if s := n.Status(); s.Buffered != at {
			t.Fatalf("17.6: Buffered %d of %d", s.Buffered, at)
		}
		o := does(t, "the last of many", n, piece(3, 2, 4, far, at, data[at:], true), has(2, 3, 4, 9))
		keeps(t, "the last of many", o, api.Snap{Base: far, Data: data}, false)
	}
	n := led(t, 0).n
	data := stuff(mostImage)
	for at := 0; at < mostImage; at += mostPiece {
		does(t, "a piece of many", n, piece(3, 2, 4, far, at, data[at:at+mostPiece], false), wants(2, 3, 4, far, at+mostPiece))
	}
	does(t, "a byte too much", n, piece(3, 2, 4, far, mostImage, []byte{1}, true), wants(2, 3, 4, far, mostImage))
	o := does(t, "no more bytes", n, piece(3, 2, 4, far, mostImage, nil, true), has(2, 3, 4, 9))
	keeps(t, "no more bytes", o, api.Snap{Base: far, Data: data}, false)
}

// TestSnapOfOld: 17.4, what is committed needs no snapshot.
func TestSnapOfOld(t *testing.T) {
	n := receiving(t).n
	s := n.Status()
	ticks(n, 2)
	for _, b := range []api.Base{base, {Index: 2, Term: 1, Conf: 14}, {Index: 2, Term: 4, Conf: 6}, {Index: 1, Term: 9, Conf: 2}} {
		o := does(t, "what is committed", n, piece(1, 2, 4, b, 0, stuff(9), true), has(2, 1, 4, 2))
		keeps(t, "what is committed", o, api.Snap{}, false)
		stands(t, "what is committed", n, s, func(s *api.Status) { s.Lead, s.Elapsed = 1, 0 })
	}
	does(t, "just behind it", n, piece(1, 2, 4, api.Base{Index: 3, Term: 2, Conf: 14}, 0, stuff(9), false), wants(2, 1, 4, api.Base{Index: 3, Term: 2, Conf: 14}, 9))
}

// TestSnapKept: 17.4 and 17.7, the entries behind a snapshot stay where the log has its
// base, and only there.
func TestSnapKept(t *testing.T) {
	for what, c := range map[string]struct {
		b    api.Base
		left []api.Entry
		kept bool
	}{
		"just behind Commit":    {api.Base{Index: 3, Term: 2, Conf: 14}, run(4, 3), true},
		"at the last":           {api.Base{Index: 4, Term: 3, Conf: 14}, nil, true},
		"of another Conf":       {api.Base{Index: 3, Term: 2, Conf: 6}, run(4, 3), true},
		"of another term":       {api.Base{Index: 3, Term: 3, Conf: 14}, nil, false},
		"of an earlier term":    {api.Base{Index: 3, Term: 1, Conf: 14}, nil, false},
		"another last":          {api.Base{Index: 4, Term: 4, Conf: 14}, nil, false},
		"behind the last":       {api.Base{Index: 5, Term: 3, Conf: 14}, nil, false},
		"at the greatest Index": {api.Base{Index: mostNumber, Term: 4, Conf: 14}, nil, false},
	} {
		n := alone(t).n
		s := n.Status()
		o := does(t, what, n, piece(1, 2, 4, c.b, 0, []byte("new"), true), has(2, 1, 4, c.b.Index))
		keeps(t, what, o, api.Snap{Base: c.b, Data: []byte("new")}, c.kept)
		logged(t, what, n, c.left...)
		stands(t, what, n, s, func(s *api.Status) {
			s.Lead, s.Elapsed, s.Base, s.Commit, s.Conf, s.ConfIndex = 1, 0, c.b, c.b.Index, c.b.Conf, c.b.Index
			s.Last = c.b.Index + uint64(len(c.left))
		})
		tells(t, "17.7: "+what+", and then nothing", n)
	}
}

// TestSnapOfOtherTerm: 17.2, pieces of an earlier term's leader are gone when a term is
// followed, also by what is no piece.
func TestSnapOfOtherTerm(t *testing.T) {
	for what, m := range map[string]api.Msg{
		"a piece of its next term": piece(1, 2, 5, far, 7, stuff(2), false),
		"entries":                  appends(1, 2, 5, 1, 1, 1),
		"a refusal":                wouldNot(1, 2, 5),
		"an answer":                has(1, 2, 5, 1),
	} {
		n := receiving(t).n
		b := api.Base{Index: 9, Term: 4, Conf: 14}
		if e := n.Step(m, 0); e != api.OK {
			t.Errorf("17.4: %s: %d", what, e)
		}
		n.Take()
		does(t, what+", then the next piece", n, piece(1, 2, 5, b, 7, stuff(2), false), wants(2, 1, 5, b, 0))
		does(t, what+", then the first", n, piece(1, 2, 5, b, 0, stuff(2), true), has(2, 1, 5, 9))
	}
	n := receiving(t).n
	b := api.Base{Index: 9, Term: 4, Conf: 14}
	does(t, "entries of the same term", n, appends(3, 2, 4, 4, 3, 3), has(2, 3, 4, 4))
	does(t, "a vote that is not heard", n, voting(1, 2, 9, 9, 9))
	does(t, "the next piece", n, piece(3, 2, 4, b, 7, stuff(2), false), wants(2, 3, 4, b, 9))
}

// TestSnapToVoter: 17.4, the snapshot that came is what the node would send.
func TestSnapToVoter(t *testing.T) {
	n := alone(t).n
	data := stuff(300)
	does(t, "a first piece", n, piece(1, 2, 4, other, 0, data[:100], false), wants(2, 1, 4, other, 100))
	does(t, "the last piece", n, piece(1, 2, 4, other, 100, data[100:], true), has(2, 1, 4, 9))
	leads(t, n)
	does(t, "1 lacks it", n, lacks(1, 2, 5, 4), piece(2, 1, 5, other, 0, data[:256], false))
	does(t, "1 has some", n, wants(1, 2, 5, other, 256), piece(2, 1, 5, other, 256, data[256:], true))
	does(t, "1 has it", n, has(1, 2, 5, 9), appends(2, 1, 5, 9, 4, 9, none(5, 10)))
}

// TestStrangeSnap: 17.5, a base of a greater term than any leader's: the node leads, but
// has no room for entries of its own.
func TestStrangeSnap(t *testing.T) {
	n := alone(t).n
	b := api.Base{Index: 9, Term: 77, Conf: 14}
	does(t, "a base of a term to come", n, piece(1, 2, 4, b, 0, nil, true), has(2, 1, 4, 9))
	canvasses(t, n)
	tells(t, "17.3: behind it", n, asking(2, 1, 5, 9, 77), asking(2, 3, 5, 9, 77))
	does(t, "one would", n, would(1, 2, 5), voting(2, 1, 5, 9, 77), voting(2, 3, 5, 9, 77))
	o := does(t, "one votes", n, votes(1, 2, 5), appends(2, 1, 5, 9, 77, 9), appends(2, 3, 5, 9, 77, 9))
	keeps(t, "one votes", o, api.Snap{}, false)
	logged(t, "it leads", n)
	for range 2 {
		if at, e := n.Propose([]byte("x")); at != 10 || e != api.OK {
			t.Errorf("17.5: Propose that the log refuses: %d %d", at, e)
		}
		o = tells(t, "17.5: Propose that the log refuses", n, appends(2, 1, 5, 9, 77, 9), appends(2, 3, 5, 9, 77, 9))
		keeps(t, "Propose that the log refuses", o, api.Snap{}, false)
	}
	if at, e := n.Change(false, 1); at != 0 || e != api.ErrBusy {
		t.Errorf("17.5: Change of one that has nothing of its term: %d %d", at, e)
	}
	does(t, "1 has it", n, has(1, 2, 5, 9))
	stands(t, "it leads", n, n.Status(), func(s *api.Status) { s.Role, s.Last, s.Commit = api.Leader, 9, 9 })
}
