package core_test

import (
	"math"
	"testing"

	"bursar/api"
	"bursar/core"
)

// start is what a node is made of.
type start struct {
	c    api.Config
	id   int
	h    api.Hard
	s    api.Snap
	some []api.Entry
	draw uint64
}

func (x start) new() (*core.Core, api.Errno) { return core.New(x.c, x.id, x.h, x.s, x.some, x.draw) }

// plain answers what may be: node 2 of three, with two entries behind the base.
func plain() start {
	return start{config(3), 2, api.Hard{Term: 3, Vote: 1}, snap(), row(none(2, 2), conf(3, 3, 6)), 3}
}

// TestNew: 17.1, what stands after New.
func TestNew(t *testing.T) {
	n, e := plain().new()
	if n == nil || e != api.OK {
		t.Fatalf("17.1: New: %d", e)
	}
	stands(t, "New", n, api.Status{
		ID: 2, Hard: api.Hard{Term: 3, Vote: 1}, Base: base, Last: 3, Commit: 1, Conf: 6, ConfIndex: 3, Limit: 13,
	}, nil)
	logged(t, "New", n, none(2, 2), conf(3, 3, 6))
	o := tells(t, "17.7: after New", n)
	keeps(t, "after New", o, api.Snap{}, false)
	if o.Hard != (api.Hard{Term: 3, Vote: 1}) {
		t.Errorf("17.7: after New: %v", o.Hard)
	}
	does(t, "it asks nobody after New", n, would(1, 2, 4))
	does(t, "it asks nobody after New", n, would(3, 2, 4))
	stands(t, "after answers that were not asked for", n, n.Status(), func(s *api.Status) { s.Hard, s.Role = api.Hard{Term: 3, Vote: 1}, api.Follower })
}

// TestNewOfNothing: 17.1, a node without a snapshot, without entries, without a term.
func TestNewOfNothing(t *testing.T) {
	for id := 1; id <= 3; id++ {
		n := begun(t, config(3), id, api.Hard{}, api.Snap{}, 0)
		stands(t, "a node of nothing", n, api.Status{ID: id, Limit: 10}, nil)
		if term, ok := n.Term(0); term != 0 || !ok {
			t.Errorf("17.1: Term(0) of a node of nothing: %d %t", term, ok)
		}
		logged(t, "a node of nothing", n)
	}
	n := begun(t, config(3), 1, api.Hard{Term: 2}, api.Snap{}, 0, conf(1, 1, 14), none(2, 2))
	stands(t, "entries without a snapshot", n, api.Status{ID: 1, Hard: api.Hard{Term: 2}, Last: 2, Conf: 14, ConfIndex: 1, Limit: 10}, nil)
}

// TestWrongNew: 17.1, each reason for ErrArg by itself, and with it no node.
func TestWrongNew(t *testing.T) {
	for what, spoil := range map[string]func(x *start){
		"the zero config":     func(x *start) { x.c = api.Config{} },
		"Nodes 0":             func(x *start) { x.c.Nodes = 0 },
		"Nodes 8":             func(x *start) { x.c.Nodes = 8 },
		"First 0":             func(x *start) { x.c.First = 0 },
		"Beat as Low":         func(x *start) { x.c.Beat = 10 },
		"Beat 0":              func(x *start) { x.c.Beat = 0 },
		"High below Low":      func(x *start) { x.c.High = 9 },
		"Log 3":               func(x *start) { x.c.Log = 3 },
		"Life 0":              func(x *start) { x.c.Life = 0 },
		"id 0":                func(x *start) { x.id = 0 },
		"id 4 of 3":           func(x *start) { x.id = 4 },
		"id -1":               func(x *start) { x.id = -1 },
		"the greatest id":     func(x *start) { x.id = math.MaxInt },
		"the least id":        func(x *start) { x.id = math.MinInt },
		"Vote -1":             func(x *start) { x.h.Vote = -1 },
		"Vote 8":              func(x *start) { x.h.Vote = 8 },
		"the least Vote":      func(x *start) { x.h.Vote = math.MinInt },
		"the greatest Vote":   func(x *start) { x.h.Vote = math.MaxInt },
		"Term 2^56":           func(x *start) { x.h.Term = mostNumber + 1 },
		"Term 2^64-1":         func(x *start) { x.h.Term = math.MaxUint64 },
		"data of no base":     func(x *start) { x.s.Base, x.some = api.Base{}, nil },
		"one byte of no base": func(x *start) { x.s, x.some = api.Snap{Data: []byte{0}}, nil },
		"no Index":            func(x *start) { x.s.Base.Index, x.some = 0, nil },
		"no Term":             func(x *start) { x.s.Base.Term, x.some = 0, nil },
		"no Conf":             func(x *start) { x.s.Base.Conf = 0 },
		"only a Conf":         func(x *start) { x.s, x.some = api.Snap{Base: api.Base{Conf: 14}}, nil },
		"an odd Conf":         func(x *start) { x.s.Base.Conf = 15 },
		"Conf 256":            func(x *start) { x.s.Base.Conf = 256 },
		"Conf -2":             func(x *start) { x.s.Base.Conf = -2 },
		"an Index of 2^56":    func(x *start) { x.s.Base.Index, x.some = mostNumber+1, nil },
		"a Term of 2^56":      func(x *start) { x.s.Base.Term, x.some, x.h.Term = mostNumber+1, nil, mostNumber },
		"too great":           func(x *start) { x.s.Data = make([]byte, mostImage+1) },
		"much too great":      func(x *start) { x.s.Data = make([]byte, 3*mostImage) },
		"a gap":               func(x *start) { x.some = run(3, 2) },
		"an entry twice":      func(x *start) { x.some = row(none(2, 2), none(2, 2)) },
		"the base's entry":    func(x *start) { x.some = run(1, 1, 2) },
		"a term that falls":   func(x *start) { x.some = run(2, 3, 2) },
		"a term below base's": func(x *start) { x.s.Base.Term, x.some = 3, run(2, 2) },
		"an entry of Term 0":  func(x *start) { x.s, x.some = api.Snap{}, run(1, 0) },
		"a wrong Kind":        func(x *start) { x.some[0].Kind = 3 },
		"a command of none":   func(x *start) { x.some[0].Kind = 1 },
		"an empty Conf":       func(x *start) { x.some[1].Conf = 0 },
		"below the last term": func(x *start) { x.h.Term = 2 },
		"below the base's":    func(x *start) { x.s.Base.Term, x.some = 4, nil },
		"Term 0, with a base": func(x *start) { x.h.Term, x.some = 0, nil },
		"Term 0, with a row":  func(x *start) { x.h.Term, x.s, x.some = 0, api.Snap{}, run(1, 1) },
	} {
		x := plain()
		spoil(&x)
		if n, e := x.new(); n != nil || e != api.ErrArg {
			t.Errorf("17.1: New, %s: %d", what, e)
		}
	}
}

// TestRightNew: 17.1, what may be, at its edges.
func TestRightNew(t *testing.T) {
	for what, turn := range map[string]func(x *start){
		"as it is":             func(x *start) {},
		"id 1":                 func(x *start) { x.id = 1 },
		"id 3 of 3":            func(x *start) { x.id = 3 },
		"seven nodes":          func(x *start) { x.c, x.id = config(7), 7 },
		"one node":             func(x *start) { x.c, x.id = config(1), 1 },
		"Vote 0":               func(x *start) { x.h.Vote = 0 },
		"Vote 7 of 3":          func(x *start) { x.h.Vote = 7 },
		"Vote for itself":      func(x *start) { x.h.Vote = 2 },
		"just the last term":   func(x *start) { x.h.Term = 3 },
		"just the base's":      func(x *start) { x.h.Term, x.some = 1, nil },
		"the greatest Term":    func(x *start) { x.h.Term = mostNumber },
		"all at the greatest":  func(x *start) { x.h.Term, x.some = mostNumber, run(2, mostNumber) },
		"Term 0, and a Vote":   func(x *start) { x.h, x.s, x.some = api.Hard{Vote: 2}, api.Snap{}, nil },
		"Term 1, and nothing":  func(x *start) { x.h, x.s, x.some = api.Hard{Term: 1}, api.Snap{}, nil },
		"no snapshot, a row":   func(x *start) { x.s, x.some = api.Snap{}, run(1, 1, 1, 3) },
		"no snapshot, empty":   func(x *start) { x.s, x.some = api.Snap{Data: []byte{}}, nil },
		"no bytes":             func(x *start) { x.s.Data = nil },
		"one byte":             func(x *start) { x.s.Data = []byte{0} },
		"the most bytes":       func(x *start) { x.s.Data = make([]byte, mostImage) },
		"a Conf of all nodes":  func(x *start) { x.s.Base.Conf, x.some = 254, nil },
		"a Conf of others":     func(x *start) { x.s.Base.Conf, x.some = 128, nil },
		"the greatest Index":   func(x *start) { x.s.Base.Index, x.some = mostNumber, nil },
		"the last Index":       func(x *start) { x.s.Base.Index, x.some = mostNumber-1, run(mostNumber, 1) },
		"more than its Log":    func(x *start) { x.c.Log, x.some = 4, run(2, 1, 1, 1, 1, 1, 1) },
		"a First of others":    func(x *start) { x.c.First = 2 },
		"High as Low":          func(x *start) { x.c.High = 10 },
		"a command of 128":     func(x *start) { x.some = row(command(2, 2, string(stuff(mostData)))) },
		"an equal term behind": func(x *start) { x.s.Base.Term, x.some = 3, run(2, 3) },
	} {
		x := plain()
		turn(&x)
		n, e := x.new()
		if n == nil || e != api.OK {
			t.Errorf("17.1: New, %s: %d", what, e)
			continue
		}
		agree(t, "New, "+what, n, modelOf(x))
	}
}

// TestDraws: 17.1, Limit by a draw.
func TestDraws(t *testing.T) {
	for _, c := range []struct {
		low, high int
		draw      uint64
		limit     int
	}{
		{10, 20, 0, 10}, {10, 20, 3, 13}, {10, 20, 9, 19}, {10, 20, 10, 20}, {10, 20, 11, 10}, {10, 20, 12, 11}, {10, 20, 22, 10},
		{10, 20, 1 << 32, 14}, {10, 20, 1 << 63, 18}, {10, 20, math.MaxUint64, 14}, {10, 20, math.MaxUint64 - 1, 13},
		{10, 10, 0, 10}, {10, 10, 1, 10}, {10, 10, math.MaxUint64, 10},
		{10, 11, 1, 11}, {10, 11, 2, 10}, {10, 11, math.MaxUint64, 11},
		{2, 2000, 0, 2}, {2, 2000, 1998, 2000}, {2, 2000, 1999, 2}, {2, 2000, math.MaxUint64, 1327},
		{1000, 2000, 1000, 2000}, {1000, 2000, 1001, 1000}, {1000, 1000, 7, 1000},
	} {
		x := plain()
		x.c.Low, x.c.High, x.c.Beat, x.draw, x.some = c.low, c.high, 1, c.draw, nil
		n, e := x.new()
		if e != api.OK || n.Status().Limit != c.limit {
			t.Fatalf("17.1: New with %d to %d and the draw %d: %d, not the Limit %d", c.low, c.high, c.draw, e, c.limit)
		}
		// The other two are drawn by nodes whose Limit was another, where there is another.
		x.draw++
		n, _ = x.new()
		was := n.Status()
		for range was.Limit - 1 {
			n.Tick(x.draw)
		}
		stands(t, "one tick less than its Limit", n, was, func(s *api.Status) { s.Elapsed = was.Limit - 1 })
		n.Tick(c.draw)
		stands(t, "a draw as it canvasses", n, was, func(s *api.Status) { s.Limit = c.limit })
		n, _ = x.new()
		if e = n.Step(voting(1, 2, 4, 9, 9), c.draw); e != api.OK || n.Status().Limit != c.limit {
			t.Errorf("17.4: a draw as it votes, %d to %d, %d: %d, not the Limit %d", c.low, c.high, c.draw, n.Status().Limit, c.limit)
		}
	}
}

// TestNumber: 17.1, nodes and numbers that are as great as they may be go on.
func TestNumber(t *testing.T) {
	s := api.Snap{Base: api.Base{Index: mostNumber - 1, Term: mostNumber - 1, Conf: 14}}
	n := begun(t, config(3), 1, api.Hard{Term: mostNumber - 1}, s, 0)
	leads(t, n)
	logged(t, "the last of all entries", n, none(mostNumber, mostNumber))
	does(t, "the last of all entries is there", n, has(2, 1, mostNumber, mostNumber))
	stands(t, "it is committed", n, n.Status(), func(s *api.Status) { s.Commit = mostNumber })
	if at, e := n.Propose([]byte("x")); at != 0 || e != api.ErrFull {
		t.Errorf("17.5: Propose behind the last of all entries: %d %d", at, e)
	}
	if at, e := n.Change(false, 2); at != 0 || e != api.ErrFull {
		t.Errorf("17.5: Change behind the last of all entries: %d %d", at, e)
	}
	ticks(n, 2)
	tells(t, "17.2: to those that have the last, or not", n,
		appends(1, 2, mostNumber, mostNumber, mostNumber, mostNumber),
		appends(1, 3, mostNumber, mostNumber-1, mostNumber-1, mostNumber, none(mostNumber, mostNumber)))
}
