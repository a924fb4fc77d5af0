package core_test

import (
	"math/rand/v2"
	"slices"
	"testing"

	"bursar/api"
	"bursar/core"
)

// pair is a node and its model, to which the same is done.
type pair struct {
	n *core.Core
	m *model
}

// paired makes a node and its model.
func paired(t *testing.T, x start) pair {
	t.Helper()
	n, e := x.new()
	if n == nil || e != api.OK {
		t.Fatalf("17.1: New: %d", e)
	}
	return pair{n, modelOf(x)}
}

func (p pair) tick(draw uint64) {
	p.n.Tick(draw)
	p.m.tick(draw)
}

func (p pair) step(t *testing.T, x api.Msg, draw uint64) {
	t.Helper()
	if e, want := p.n.Step(x, draw), p.m.step(x, draw); e != want {
		t.Fatalf("17.4: Step(%s): %d, not %d", short(x), e, want)
	}
}

func (p pair) propose(t *testing.T, data []byte) {
	t.Helper()
	at, e := p.n.Propose(data)
	if i, want := p.m.propose(data); at != i || e != want {
		t.Fatalf("17.5: Propose of %d bytes: %d %d, not %d %d", len(data), at, e, i, want)
	}
}

func (p pair) change(t *testing.T, add bool, node int) {
	t.Helper()
	at, e := p.n.Change(add, node)
	if i, want := p.m.change(add, node); at != i || e != want {
		t.Fatalf("17.5: Change(%t, %d): %d %d, not %d %d", add, node, at, e, i, want)
	}
}

func (p pair) compact(t *testing.T, s api.Snap) {
	t.Helper()
	if e, want := p.n.Compact(s), p.m.compact(s); e != want {
		t.Fatalf("17.6: Compact(%s): %d, not %d", short(s), e, want)
	}
}

func (p pair) take(t *testing.T, what string) core.Out {
	t.Helper()
	o := p.n.Take()
	agreeOut(t, what, o, p.m.take())
	return o
}

// drawnData draws a command's bytes, now and then too few or too many.
func drawnData(rnd *rand.Rand) []byte {
	n := 1 + rnd.IntN(3)
	if rnd.IntN(8) == 0 {
		n = []int{0, mostData, mostData + 1}[rnd.IntN(3)]
	}
	return stuff(n)
}

// drawnEntry draws an entry of any kind.
func drawnEntry(rnd *rand.Rand, term, index uint64) api.Entry {
	switch rnd.IntN(4) {
	case 0:
		return conf(term, index, 2*(1+rnd.IntN(127)))
	case 1:
		return conf(term, index, []int{14, 6, 10, 12, 30}[rnd.IntN(5)])
	case 2:
		return command(term, index, string(stuff(1+rnd.IntN(4))))
	}
	return none(term, index)
}

// near draws a number near one that is given.
func near(rnd *rand.Rand, n uint64, down, up int) uint64 {
	d := rnd.IntN(down+up+1) - down
	if d < 0 && uint64(-d) > n {
		return 0
	}
	return n + uint64(d)
}

// drawnIndex draws an index that means something to a node, or one near by.
func drawnIndex(rnd *rand.Rand, m *model) uint64 {
	some := []uint64{m.base.Index, m.commit, m.commit, m.last(), m.last()}
	return near(rnd, some[rnd.IntN(len(some))], 1, 2)
}

// drawnLogTerm draws the term that a node has at an index, or one near by.
func drawnLogTerm(rnd *rand.Rand, m *model, index uint64) uint64 {
	own, ok := m.term(index)
	if !ok {
		own, _ = m.term(m.last())
	}
	if rnd.IntN(3) > 0 {
		return own
	}
	return near(rnd, own, 1, 1)
}

// drawnMsg draws a message to a node that most often may be.
func drawnMsg(rnd *rand.Rand, m *model) api.Msg {
	x := api.Msg{Kind: 1 + rnd.IntN(6), From: 1 + rnd.IntN(m.c.Nodes), To: m.id}
	if x.From == m.id {
		x.From = 1 + m.id%m.c.Nodes
	}
	x.Term = []uint64{m.hard.Term, m.hard.Term, m.hard.Term, m.hard.Term, near(rnd, m.hard.Term, 1, 1), near(rnd, m.hard.Term, 0, 3)}[rnd.IntN(6)]
	switch x.Kind {
	case 1:
		x.Index, x.Last = drawnIndex(rnd, m), rnd.IntN(2) == 0
		x.LogTerm = drawnLogTerm(rnd, m, m.last())
	case 2:
		x.Last, x.Refused = rnd.IntN(2) == 0, rnd.IntN(4) == 0
		if !x.Last && rnd.IntN(2) == 0 {
			x.Term = m.hard.Term + 1
		}
	case 3:
		drawnAppend(rnd, m, &x)
	case 4:
		x.Index, x.Refused = drawnIndex(rnd, m), rnd.IntN(2) == 0
	case 5:
		drawnPiece(rnd, m, &x)
	case 6:
		x.Base, x.Offset = m.base, rnd.IntN(len(m.image)+3)
		if rnd.IntN(4) == 0 {
			x.Base = drawnBase(rnd, m)
		}
	}
	if rnd.IntN(40) == 0 {
		drawnFault(rnd, &x)
	}
	return x
}

// drawnAppend draws entries: those that are there, others behind some of them, or none.
func drawnAppend(rnd *rand.Rand, m *model, x *api.Msg) {
	x.Index = drawnIndex(rnd, m)
	x.LogTerm = drawnLogTerm(rnd, m, x.Index)
	x.Commit = near(rnd, m.commit, 1, 4)
	term, keep := x.LogTerm, rnd.IntN(5)
	for k := range rnd.IntN(mostBatch + 1) {
		index := x.Index + 1 + uint64(k)
		at := slices.IndexFunc(m.row, func(e api.Entry) bool { return e.Index == index })
		if k < keep && at >= 0 && m.row[at].Term >= term && m.row[at].Term <= x.Term {
			x.Entries = append(x.Entries, twin(m.row[at:at+1])...)
			term = m.row[at].Term
			continue
		}
		if rnd.IntN(3) == 0 {
			term = x.Term
		}
		x.Entries = append(x.Entries, drawnEntry(rnd, term, index))
	}
}

// drawnBase draws the base of a snapshot that a node may be sent.
func drawnBase(rnd *rand.Rand, m *model) api.Base {
	index := drawnIndex(rnd, m)
	return api.Base{Index: index, Term: max(1, drawnLogTerm(rnd, m, index)), Conf: []int{14, 14, 6, 30}[rnd.IntN(4)]}
}

// drawnPiece draws a piece of a snapshot: most often the one that is lacking.
func drawnPiece(rnd *rand.Rand, m *model, x *api.Msg) {
	x.Base = m.taking
	if m.taking.Index == 0 || rnd.IntN(6) == 0 {
		x.Base = drawnBase(rnd, m)
	}
	x.Offset, x.Data, x.Last = len(m.taken), stuff(rnd.IntN(4)), rnd.IntN(3) == 0
	if x.Base != m.taking {
		x.Offset = 0
	}
	if rnd.IntN(5) == 0 {
		x.Offset = rnd.IntN(len(m.taken) + 3)
	}
}

// drawnFault turns something of a message, most often so that it may not be.
func drawnFault(rnd *rand.Rand, x *api.Msg) {
	switch rnd.IntN(7) {
	case 0:
		x.To = rnd.IntN(mostNodes + 2)
	case 1:
		x.From = rnd.IntN(mostNodes + 2)
	case 2:
		x.Kind = rnd.IntN(9) - 1
	case 3:
		x.Term = uint64(rnd.IntN(2)) * (mostNumber + 1)
	case 4:
		x.Index = mostNumber + 1
	case 5:
		x.Offset = []int{-1, mostImage, mostImage + 1}[rnd.IntN(3)]
	case 6:
		x.Data = stuff(mostPiece + 1)
	}
}

// helpful answers a message that brings a node nearer to leading, or a leader nearer to
// what all have; or any.
func helpful(rnd *rand.Rand, m *model) api.Msg {
	from := 1 + (m.id+rnd.IntN(mostNodes))%m.c.Nodes
	switch {
	case from == m.id:
		return drawnMsg(rnd, m)
	case m.canvassing:
		return would(from, m.id, m.hard.Term+1)
	case m.role == 1:
		return votes(from, m.id, m.hard.Term)
	case m.role == 2 && m.next[from] <= m.base.Index && rnd.IntN(2) == 0:
		return wants(from, m.id, m.hard.Term, m.base, rnd.IntN(len(m.image)+1))
	case m.role == 2:
		return has(from, m.id, m.hard.Term, near(rnd, m.last(), 1, 0))
	}
	return drawnMsg(rnd, m)
}

// drawnSnap draws a snapshot for a Compact, most often one that may be.
func drawnSnap(rnd *rand.Rand, m *model) api.Snap {
	index := near(rnd, m.commit, 2, 0)
	if rnd.IntN(4) == 0 {
		index = drawnIndex(rnd, m)
	}
	term, _ := m.term(index)
	set, _ := m.confAt(index)
	s := api.Snap{Base: api.Base{Index: index, Term: term, Conf: set}, Data: stuff(rnd.IntN(900))}
	switch rnd.IntN(16) {
	case 0:
		s.Base.Term++
	case 1:
		s.Base.Conf ^= 2
	case 2:
		s.Data = stuff(mostImage + 1)
	case 3:
		s.Base.Index++
	}
	return s
}

// drawnStep does one drawn thing to a node and to its model, and takes what is told, or not.
func drawnStep(t *testing.T, rnd *rand.Rand, p pair, calm bool) {
	t.Helper()
	drawnCall(t, rnd, p, calm)
	if rnd.IntN(3) > 0 {
		p.take(t, "after a step")
	}
}

// drawnCall does one drawn thing to a node and to its model. Of a calm one, most messages
// help it to lead, and to go on so.
func drawnCall(t *testing.T, rnd *rand.Rand, p pair, calm bool) {
	t.Helper()
	switch what := rnd.IntN(100); {
	case what < 12:
		p.tick(rnd.Uint64())
	case what < 18:
		for range p.m.limit {
			p.tick(uint64(rnd.IntN(11)))
		}
	case what < 45 && !calm, what < 21:
		p.step(t, drawnMsg(rnd, p.m), rnd.Uint64())
	case what < 85:
		p.step(t, helpful(rnd, p.m), rnd.Uint64())
	case what < 91:
		p.propose(t, drawnData(rnd))
	case what < 95:
		p.change(t, rnd.IntN(2) == 0, rnd.IntN(p.m.c.Nodes+3)-1)
	default:
		p.compact(t, drawnSnap(rnd, p.m))
	}
	agree(t, "after a step", p.n, p.m)
}

// drawnStart draws what a node is made of.
func drawnStart(rnd *rand.Rand) start {
	x := start{c: config(1 + rnd.IntN(mostNodes)), draw: rnd.Uint64()}
	x.c.Low = 2 + rnd.IntN(9)
	x.c.High = x.c.Low + rnd.IntN(5)
	x.c.Beat = 1 + rnd.IntN(x.c.Low-1)
	x.c.Log = 4 + rnd.IntN(12)
	x.id = 1 + rnd.IntN(x.c.Nodes)
	if rnd.IntN(8) > 0 {
		x.s = api.Snap{Base: api.Base{Index: 1 + uint64(rnd.IntN(9)), Term: 1 + uint64(rnd.IntN(2)), Conf: x.c.First}, Data: stuff(rnd.IntN(700))}
		if rnd.IntN(6) == 0 {
			x.s.Base.Conf = 2 * (1 + rnd.IntN(127))
		}
		if rnd.IntN(30) == 0 {
			x.s.Base.Index = mostNumber - uint64(rnd.IntN(7))
		}
		if rnd.IntN(30) == 0 {
			x.s.Base.Term = mostNumber - uint64(rnd.IntN(4))
		}
	}
	term := x.s.Base.Term
	for k := range rnd.IntN(5) {
		term = min(mostNumber, max(1, term+uint64(rnd.IntN(2))))
		if index := x.s.Base.Index + 1 + uint64(k); index <= mostNumber {
			x.some = append(x.some, drawnEntry(rnd, term, index))
		}
	}
	x.h = api.Hard{Term: min(mostNumber, term+uint64(rnd.IntN(2))), Vote: rnd.IntN(x.c.Nodes + 1)}
	return x
}

// TestDrawn: 17.1 to 17.7, many drawn steps of one node, held against the model.
func TestDrawn(t *testing.T) {
	led, changed, restored := 0, 0, 0
	for seed := range uint64(2000) {
		rnd := rand.New(rand.NewPCG(17, seed))
		p := paired(t, drawnStart(rnd))
		agree(t, "New", p.n, p.m)
		for range 120 {
			was := *p.m
			drawnStep(t, rnd, p, seed%2 == 0)
			if p.m.role == 2 {
				led++
			}
			if _, at := p.m.conf(); p.m.role == 2 && at > was.last() {
				changed++
			}
			if p.m.role == 0 && p.m.base != was.base {
				restored++
			}
			if t.Failed() {
				t.Fatalf("the seed %d", seed)
			}
		}
	}
	if led < 10000 || changed < 100 || restored < 1000 {
		t.Errorf("%d steps of a leader only, %d changes, %d snapshots of followers", led, changed, restored)
	}
}

// TestAlike: R4 and R8, the same calls have the same results, whatever others do meanwhile.
func TestAlike(t *testing.T) {
	for seed := range uint64(40) {
		first, second := rand.New(rand.NewPCG(17, 5000+seed)), rand.New(rand.NewPCG(17, 5000+seed))
		one, other := paired(t, drawnStart(first)), paired(t, drawnStart(second))
		third := rand.New(rand.NewPCG(17, 6000+seed))
		between := paired(t, drawnStart(third))
		for range 100 {
			drawnStep(t, first, one, seed%2 == 0)
			drawnStep(t, third, between, false)
			drawnStep(t, second, other, seed%2 == 0)
			agree(t, "R4: done alike", one.n, other.m)
		}
	}
}
