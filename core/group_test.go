package core_test

import (
	"fmt"
	"hash/fnv"
	"math/rand/v2"
	"slices"
	"testing"

	"bursar/api"
	"bursar/core"
)

// disk is what a node was told to keep.
type disk struct {
	hard api.Hard
	snap api.Snap
	some []api.Entry
}

// keep stores what a Take tells.
func (d *disk) keep(o core.Out) {
	d.hard = o.Hard
	if o.Snap.Base != (api.Base{}) {
		if !o.Kept {
			d.some = nil
		}
		d.compact(o.Snap)
	}
	if o.From != 0 {
		d.some = slices.DeleteFunc(d.some, func(e api.Entry) bool { return e.Index >= o.From })
		d.some = append(d.some, o.Entries...)
	}
}

// compact stores a snapshot, behind which the log goes on.
func (d *disk) compact(s api.Snap) {
	d.snap = s
	d.some = slices.DeleteFunc(d.some, func(e api.Entry) bool { return e.Index <= s.Base.Index })
}

// fact is an entry that a node knew to be committed, and the least term in which one did.
type fact struct {
	entry api.Entry
	term  uint64
}

// odds are how often what happens, of a hundred.
type odds struct{ lose, double, crash, change, compact, tick int }

// group is nodes with what they keep, what is on its way, and all that was ever seen.
type group struct {
	t     *testing.T
	rnd   *rand.Rand
	c     api.Config
	odds  odds
	nodes []pair // from 1 on
	disks []disk
	bag   []api.Msg
	apart int // those whose messages reach one another only, for a while
	fast  int // the node that is asked more often than others, for a while

	leaders map[uint64]int  // of each term
	facts   map[uint64]fact // of each index
	seen    counts
}

// counts tell how much happened in runs.
type counts struct{ leaders, facts, snaps, kept, starts, confs, cuts int }

func (a *counts) add(b counts) {
	a.leaders += b.leaders
	a.facts += b.facts
	a.snaps += b.snaps
	a.kept += b.kept
	a.starts += b.starts
	a.confs += b.confs
	a.cuts += b.cuts
}

// assembled makes a group of which those in first are members.
func assembled(t *testing.T, rnd *rand.Rand, nodes, first int, o odds) *group {
	c := config(nodes)
	c.First, c.Log = first, 4+rnd.IntN(20)
	c.Low = 2 + rnd.IntN(5)
	c.High, c.Beat = c.Low+rnd.IntN(7), 1+rnd.IntN(min(3, c.Low-1))
	g := &group{t: t, rnd: rnd, c: c, odds: o, leaders: map[uint64]int{}, facts: map[uint64]fact{}}
	g.nodes, g.disks = make([]pair, nodes+1), make([]disk, nodes+1)
	for id := 1; id <= nodes; id++ {
		if first&(1<<id) != 0 {
			g.disks[id] = disk{api.Hard{Term: 1}, g.image(api.Base{Index: 1, Term: 1, Conf: first}), nil}
		}
		g.start(id)
	}
	return g
}

// start begins a node anew with what it was told to keep.
func (g *group) start(id int) {
	d := g.disks[id]
	g.nodes[id] = paired(g.t, start{g.c, id, d.hard, d.snap, d.some, g.rnd.Uint64()})
}

// image answers the snapshot at a base: its data hangs on all that was committed up to there.
func (g *group) image(b api.Base) api.Snap {
	h := fnv.New32a()
	for i := uint64(2); i <= b.Index; i++ {
		fmt.Fprint(h, g.facts[i].entry)
	}
	data := []byte(fmt.Sprint(b, h.Sum32()))
	return api.Snap{Base: b, Data: append(data, stuff(int(h.Sum32()%700))...)}
}

// ask does something drawn with one node: one call, or some.
func (g *group) ask(id int) {
	p, rnd := g.nodes[id], g.rnd
	for range 1 + rnd.IntN(8)/6 {
		switch what := rnd.IntN(100); {
		case what < g.odds.change:
			p.change(g.t, rnd.IntN(2) == 0, 1+rnd.IntN(g.c.Nodes))
		case what < g.odds.change+g.odds.compact:
			g.compact(id)
		case what < g.odds.change+g.odds.compact+15:
			p.propose(g.t, drawnData(rnd))
		default:
			p.tick(rnd.Uint64())
		}
	}
}

// compact makes a snapshot of a node, of what it knows to be committed.
func (g *group) compact(id int) {
	p := g.nodes[id]
	s := p.n.Status()
	i := near(g.rnd, s.Commit, 3, 0)
	term, ok := p.n.Term(i)
	_, known := g.facts[i]
	if set := p.n.ConfAt(i); known && ok && i > s.Base.Index {
		x := g.image(api.Base{Index: i, Term: term, Conf: set})
		p.compact(g.t, x)
		g.disks[id].compact(x)
		g.seen.cuts++
	}
}

// deliver takes a message out of the bag, or a copy of it, or loses it.
func (g *group) deliver() (id int) {
	k := g.rnd.IntN(len(g.bag))
	x := g.bag[k]
	if g.rnd.IntN(100) >= g.odds.double {
		g.bag = slices.Delete(g.bag, k, k+1)
	}
	// Entries are written over when they were delivered, so each has its own.
	x.Entries, x.Data = twin(x.Entries), slices.Clone(x.Data)
	reaches := g.apart>>x.From&1 == g.apart>>x.To&1
	if reaches && g.rnd.IntN(100) >= g.odds.lose {
		g.nodes[x.To].step(g.t, x, g.rnd.Uint64())
	}
	return x.To
}

// step does one drawn thing, and what comes of it.
func (g *group) step() {
	id := 1 + g.rnd.IntN(g.c.Nodes)
	if g.rnd.IntN(150) == 0 && g.odds.lose > 0 {
		g.part(id)
	}
	switch what := g.rnd.IntN(1000); {
	case what < g.odds.crash:
		g.start(id)
		g.seen.starts++
	case len(g.bag) > 0 && what >= g.odds.tick*10:
		id = g.deliver()
	default:
		if g.fast > 0 && g.rnd.IntN(2) == 0 {
			id = g.fast
		}
		g.ask(id)
	}
	g.follow(id)
	g.check(id)
}

// part cuts the group in two for a while, or joins it again; one node is the fast one.
func (g *group) part(fast int) {
	g.fast, g.apart = fast, 0
	switch g.rnd.IntN(3) {
	case 0:
		g.apart = g.rnd.IntN(256)
	case 1:
		// Who leads alone has entries that others replace.
		for id := 1; id <= g.c.Nodes; id++ {
			if g.nodes[id].n.Status().Role == api.Leader {
				g.apart, g.fast = 1<<id, 1+id%g.c.Nodes
			}
		}
	}
}

// follow keeps what a node tells to keep, and sends what it tells to send.
func (g *group) follow(id int) {
	o := g.nodes[id].take(g.t, "of a group")
	g.disks[id].keep(o)
	if o.Snap.Base != (api.Base{}) {
		g.seen.snaps++
		if o.Kept {
			g.seen.kept++
		}
		if !sameSnap(o.Snap, g.image(o.Snap.Base)) {
			g.t.Fatalf("17.8: node %d has the snapshot %s, not %s", id, short(o.Snap), short(g.image(o.Snap.Base)))
		}
	}
	for _, x := range o.Msgs {
		if x.To <= g.c.Nodes {
			g.bag = append(g.bag, x)
		}
		if x.Kind == 3 || x.Kind == 5 {
			g.leads(id, x.Term)
		}
	}
	for len(g.bag) > 60 {
		k := g.rnd.IntN(len(g.bag))
		g.bag = slices.Delete(g.bag, k, k+1)
	}
}

// leads checks that a node is the only leader of a term.
func (g *group) leads(id int, term uint64) {
	if other, ok := g.leaders[term]; ok && other != id {
		g.t.Fatalf("17.8: %d and %d lead in term %d", other, id, term)
	}
	if g.leaders[term] == 0 {
		g.seen.leaders++
	}
	g.leaders[term] = id
}

// check checks the four sentences of 17.8, of a node that something was done with, and that
// it was told to keep what it has.
func (g *group) check(id int) {
	p := g.nodes[id]
	s, d := p.n.Status(), g.disks[id]
	if s != p.m.status() {
		g.t.Fatalf("17: of a group: it stands %+v, not %+v", s, p.m.status())
	}
	if s.Hard != d.hard || s.Base != d.snap.Base || !same(p.n.Entries(s.Base.Index+1, 1<<20), d.some) {
		g.t.Fatalf("17.7: node %d: %+v, and it was told to keep %s", id, s, short(d))
	}
	if s.Role == api.Leader {
		g.leads(id, s.Hard.Term)
	}
	for other := range g.disks {
		if other != 0 && other != id {
			g.alike(d, g.disks[other])
		}
	}
	g.knows(s, d)
	for other := 1; other <= g.c.Nodes; other++ {
		if q := g.nodes[other].n.Status(); q.Role == api.Leader {
			g.hasAll(q, g.disks[other])
		}
	}
}

// at answers the entry of a disk at an index, if it has one.
func (d disk) at(index uint64) (api.Entry, bool) {
	if index <= d.snap.Base.Index || index > d.snap.Base.Index+uint64(len(d.some)) {
		return api.Entry{}, false
	}
	return d.some[index-d.snap.Base.Index-1], true
}

// alike checks that two logs are the same up to the last entry that has the same term in
// both, as far as both have entries.
func (g *group) alike(one, other disk) {
	together := false
	for k := len(one.some) - 1; k >= 0; k-- {
		x := one.some[k]
		y, ok := other.at(x.Index)
		if !ok {
			continue
		}
		together = together || x.Term == y.Term
		if together && !sameEntry(x, y) {
			g.t.Fatalf("17.8: %s in one log, %s in another", short(x), short(y))
		}
	}
}

// knows checks that what a node knows to be committed is what others know.
func (g *group) knows(s api.Status, d disk) {
	if b := d.snap.Base; b.Index > 1 {
		f, ok := g.facts[b.Index]
		if !ok || f.entry.Term != b.Term || g.confOf(b.Index) != b.Conf {
			g.t.Fatalf("17.8: node %d has the base %v, and committed is %s", s.ID, b, short(f))
		}
	}
	for _, x := range d.some {
		if x.Index > s.Commit {
			return
		}
		f, ok := g.facts[x.Index]
		if ok && !sameEntry(x, f.entry) {
			g.t.Fatalf("17.8: node %d knows %s, and another %s", s.ID, short(x), short(f.entry))
		}
		if !ok || s.Hard.Term < f.term {
			g.facts[x.Index] = fact{twin(row(x))[0], s.Hard.Term}
		}
		if !ok {
			g.seen.facts++
			g.seen.confs += x.Kind / 2
		}
	}
}

// confOf answers the members at an index, by what is known to be committed.
func (g *group) confOf(index uint64) int {
	for ; index > 1; index-- {
		if f := g.facts[index]; f.entry.Kind == 2 {
			return f.entry.Conf
		}
	}
	return g.c.First
}

// hasAll checks that a leader has what was known to be committed in earlier terms.
func (g *group) hasAll(s api.Status, d disk) {
	for index, f := range g.facts {
		if f.term >= s.Hard.Term || index <= s.Base.Index {
			continue
		}
		if x, ok := d.at(index); !ok || !sameEntry(x, f.entry) {
			g.t.Fatalf("17.8: the leader %d of term %d has %s, and %s is committed", s.ID, s.Hard.Term, short(x), short(f))
		}
	}
}

// played runs a group for so many steps, and answers what was seen.
func played(t *testing.T, seed uint64, nodes, first, steps int, o odds) counts {
	t.Helper()
	defer func() {
		if t.Failed() {
			t.Logf("the seed %d, %d nodes, first %d, %+v", seed, nodes, first, o)
		}
	}()
	g := assembled(t, rand.New(rand.NewPCG(178, seed)), nodes, first, o)
	for range steps {
		g.step()
	}
	return g.seen
}

// TestGroups: 17.8, groups of one to seven nodes that all are members at first.
func TestGroups(t *testing.T) {
	for nodes := 1; nodes <= mostNodes; nodes++ {
		var seen counts
		for seed := range uint64(10) {
			for k, o := range []odds{
				{0, 0, 0, 0, 2, 20}, {2, 10, 2, 2, 1, 35}, {25, 20, 5, 4, 4, 30}, {5, 5, 20, 3, 10, 40},
			} {
				seen.add(played(t, 1000*uint64(nodes)+10*seed+uint64(k), nodes, all(nodes), 500+600*nodes, o))
			}
		}
		if seen.leaders < 32 || seen.facts < 200 || seen.starts < 50 || seen.cuts < 50 {
			t.Errorf("of %d nodes too little was seen: %+v", nodes, seen)
		}
	}
}

// TestJoined: 17.8, groups of which some are members at first, and others come and go.
func TestJoined(t *testing.T) {
	var seen counts
	for seed := range uint64(60) {
		rnd := rand.New(rand.NewPCG(1780, seed))
		nodes := 2 + rnd.IntN(6)
		first := 2 * (1 + rnd.IntN(1<<nodes-1))
		o := odds{rnd.IntN(20), rnd.IntN(20), rnd.IntN(8), 5 + rnd.IntN(20), rnd.IntN(15), 15 + rnd.IntN(20)}
		seen.add(played(t, 100000+seed, nodes, first, 1000+400*nodes, o))
	}
	if seen.leaders < 200 || seen.facts < 3000 || seen.confs < 300 || seen.snaps < 100 || seen.kept < 2 || seen.starts < 100 {
		t.Errorf("too little was seen: %+v", seen)
	}
}
